"""Promises with many positions: what is answered, what raises `TooMany(20000)`, and how long it takes."""

import itertools
import time
import unittest

from eitherhand.base import places
from eitherhand.base.boards import Board
from eitherhand.base.promises import Promise
from eitherhand.errors import InvalidOperation, TooMany
from eitherhand.given import asking, books, sets
from eitherhand.keep import counters, fewest, kept, plans
from eitherhand.order import leads, shapes
from eitherhand.plain import worlds
from eitherhand.play import runs

FIVE, FOUR, TWO = "[a + b + c + d]", "[a * b * c]", "[a + a]"
# 5 * 5 * 5 * 5 * 4 * 4 * 2 positions: just as many as are let.
FULL = Promise.read(f"(({FIVE} & {FIVE} & [a * !b * c * !d] & {FIVE}) & {FOUR} & {FOUR} & {TWO})")
OVER = Promise.read(f"[{FULL} + yes]")
# 3 ** 9 positions, kept by copying.
COPIED = Promise.read(
    "(([!a * !b] & [!c * !d] & [!e + !f] & [!a + !c]) | ([a + b] | [c + d] | [e * f] | [a * c]) | [e + f])"
)
# Ten choices, more than 20000 positions.
TEN = Promise.read(
    "(([!a * !b] & [!c * !d] & [!e + !f] & [!a + !c]) | ([a + b] | [c + d] | [e * f] | [a * c]) | ([b * b] & [!c + d]))"
)
# Choices of four parts each, side by side or one within another.
FOURS = Promise.read(f"(({FIVE} | {FIVE} | [a * !b * c * !d] | {FIVE}) | {FIVE} | [e * f * a * b] | {FIVE})")
INNER = "[a * b * c * [a * b * c * no]]"
NESTED = Promise.read(f"[{INNER} * {INNER} * {INNER} * {INNER}]")
# Bridges from one side to the other one have 125 * 160 positions: just as many as are let.
SIDE = Promise.read(f"({FIVE} & {FIVE} & {FIVE})")
OTHER_SIDE = Promise.read(f"({FIVE} & {FOUR} & {FOUR} & {TWO})")
HUGE = (OVER, FOURS, Promise.read(f"({FULL} & [a * a])"))


class LimitsTest(unittest.TestCase):
    def timed(self, call, most=6):
        """What a call returns, if that does not take too many seconds."""
        start = time.perf_counter()
        found = call()
        self.assertLess(time.perf_counter() - start, most)
        return found

    def too_many(self, call):
        with self.assertRaises(TooMany) as caught:
            self.timed(call)
        self.assertEqual(caught.exception.limit, 20000)

    def test_just_as_many_as_are_let(self):
        found = self.timed(lambda: places.positions(FULL))
        self.assertEqual([len(found), len(set(found))], [20000, 20000])
        self.assertEqual(list(found), sorted(found))
        self.assertIs(self.timed(lambda: places.is_position(FULL, found[777])), True)
        self.assertIs(self.timed(lambda: places.is_position(FULL, found[777] + "a")), False)
        self.assertEqual(len(self.timed(lambda: fewest.needs(FULL))), 20000)

    def test_a_way_to_a_last_position(self):
        text = "((a & b & !d & d) & c & c & a)"
        way = places.calls_to(FULL, text)
        self.assertEqual(len(way), 7)
        self.assertEqual(runs.played(FULL, way).text, text)

    def test_a_lesser_limit_is_met_exactly(self):
        for promise in (Promise.read(text) for text in (
                "[a + b]", "[a + a]", "(a & b)", "([a + b] & [c * c])", "[([a + b] | [a + b]) * a * [a + c + [a * d]]]",
                "[[a + b] + [a + b] + b]", "(([a + b] & [c + d]) | [[a * b] + c])", INNER)):
            many = len(places.positions(promise))
            self.assertEqual(len(Board(promise.nodes, many).texts), many)
            with self.assertRaises(TooMany) as caught:
                Board(promise.nodes, many - 1)
            self.assertEqual(caught.exception.limit, many - 1)

    def test_few_positions_of_many_choices(self):
        self.assertEqual(len(places.positions(NESTED)), 7)
        self.assertEqual([runs.count_runs(NESTED), NESTED.choices], [37, 9])
        equal = Promise.read(f"({' & '.join(['([a + a] & [a + a])'] * 4)})")
        self.assertEqual([len(places.positions(equal)), len(self.timed(lambda: fewest.needs(equal)))], [256, 256])

    def test_more_than_are_let(self):
        self.assertEqual([one.choices for one in (OVER, TEN, FOURS)], [8, 10, 7])
        self.too_many(lambda: places.positions(OVER))
        self.too_many(lambda: kept.is_kept(OVER))
        for promise in (*HUGE[1:], TEN):
            for call in (
                lambda: places.positions(promise), lambda: places.is_position(promise, promise.text),
                lambda: places.calls_to(promise, promise.text), lambda: runs.count_runs(promise),
                lambda: plans.is_plan(promise, {}), lambda: kept.is_kept(promise), lambda: kept.plan_for(promise),
                lambda: kept.kept_paper(promise), lambda: kept.is_kept_paper(promise, ("plan", {})),
                lambda: kept.good_calls(promise), lambda: kept.hurting_calls(promise), lambda: kept.may_wait(promise),
                lambda: kept.kept_positions(promise), lambda: kept.Keeper(promise), lambda: counters.is_counter(promise, {}),
                lambda: counters.is_habit(promise, {}), lambda: counters.counter_for(promise), lambda: fewest.need(promise),
                lambda: fewest.needs(promise), lambda: fewest.most_table(promise, 3),
                lambda: fewest.is_most_table(promise, 3, {}), lambda: fewest.least_table(promise, 3),
                lambda: fewest.is_least_table(promise, 3, {}), lambda: fewest.sparing_plan(promise),
                lambda: fewest.is_sparing(promise, {}), lambda: fewest.sparing_calls(promise),
            ):
                self.too_many(call)

    def test_what_is_answered_all_the_same(self):
        for promise in (*HUGE, TEN):
            for hand in ("caller", "keeper"):
                for place, index in self.timed(lambda: places.calls(promise, hand)):
                    self.assertIs(places.is_call(promise, (place, index)), True)
                    self.assertEqual(places.hand_of(promise, (place, index)), hand)
                    self.assertIsInstance(places.called(promise, (place, index)), Promise)
                self.assertEqual(len(runs.moves_at(promise, hand)), len(places.Surface(promise).moves(hand)))
            self.assertEqual(places.part_at(promise, ()), promise)
            self.assertEqual(places.replaced(promise, (), NESTED), NESTED)
            self.assertEqual(len(places.Surface(promise)), len(places.surface(promise)))
            self.assertEqual(worlds.Plain(promise).form, worlds.plain_form(promise))
            self.assertEqual(worlds.is_stable(promise), worlds.false_worlds(promise) == ())
            self.assertIsNone(runs.first_wrong(promise, ()))
            self.assertEqual(runs.played(promise, ()), promise)
            self.assertIn(runs.winner(promise, (), ()), runs.HANDS)
            play = runs.Play(promise)
            while not play.is_over():
                play.call(*(play.moves("caller") + play.moves("keeper"))[0])
            self.assertIsNone(runs.first_wrong(promise, play.so_far))
            found = self.timed(lambda: list(itertools.islice(runs.sound_runs(promise, 12), 20000)))
            self.assertEqual(found, sorted(set(found)))
            self.assertEqual(len(self.timed(lambda: list(runs.sound_runs(promise, 1)))), 1 + sum(
                len(runs.moves_at(promise, hand)) for hand in runs.HANDS))

    def test_each_function_at_many_positions(self):
        for promise in (COPIED, -COPIED, FULL):
            word, table = self.timed(lambda: kept.kept_paper(promise))
            self.assertIs(self.timed(lambda: kept.is_kept_paper(promise, (word, table))), True)
            found = self.timed(lambda: kept.kept_positions(promise))
            self.assertEqual(self.timed(lambda: kept.is_kept(promise)), promise.text in found)
            self.assertEqual(word, "plan" if promise.text in found else "counter")
            for call in (kept.good_calls, kept.hurting_calls, kept.may_wait, fewest.needs, fewest.sparing_calls,
                         runs.count_runs):
                self.timed(lambda: call(promise))
            need = self.timed(lambda: fewest.need(promise))
            self.assertEqual(need == 11, word == "counter")
            if need < 11:
                most = self.timed(lambda: fewest.most_table(promise, need))
                self.assertIs(self.timed(lambda: fewest.is_most_table(promise, need, most)), True)
            if need > 0:
                least = self.timed(lambda: fewest.least_table(promise, need))
                self.assertIs(self.timed(lambda: fewest.is_least_table(promise, need, least)), True)
        self.assertEqual([kept.is_kept(COPIED), kept.is_kept(-COPIED)], [True, False])

    def test_plans_at_many_positions(self):
        table = self.timed(lambda: kept.plan_for(COPIED))
        plan = self.timed(lambda: plans.Plan(COPIED, table))
        self.assertEqual(self.timed(plan.lean), plan)
        self.assertEqual(self.timed(plan.most_calls), self.timed(lambda: fewest.cost(COPIED, table)))
        calls = tuple((place, index) for place, index in places.calls(COPIED, "caller") if index == 1)
        run = self.timed(lambda: plans.answered(COPIED, table, calls))
        self.assertIs(self.timed(lambda: plans.does_go_by(COPIED, table, run)), True)
        self.assertIsNone(self.timed(lambda: plans.due_call(COPIED, table, run)))
        self.assertEqual(self.timed(lambda: plans.taken_up(COPIED, table, run))[1], ())
        self.assertEqual(len(self.timed(lambda: list(itertools.islice(plan.runs(), 2000)))), 633)
        self.assertEqual(self.timed(lambda: fewest.cost(COPIED, fewest.sparing_plan(COPIED))), fewest.need(COPIED))
        whole = {text: None for text in places.positions(COPIED)}
        self.assertIs(self.timed(lambda: plans.is_plan(COPIED, whole)), False)
        keeper = self.timed(lambda: kept.Keeper(COPIED))
        for place, index in calls:
            keeper.hear(place, index)
            self.timed(keeper.settle, most=1)
        self.assertIs(worlds.is_stable(keeper.position), True)

    def test_counters_at_many_positions(self):
        promise = -COPIED
        table = self.timed(lambda: counters.counter_for(promise))
        counter = self.timed(lambda: counters.Counter(promise, table))
        self.assertEqual(self.timed(counter.lean), counter)
        habit = {text: None for text in places.positions(promise)}
        self.assertIs(self.timed(lambda: counters.is_habit(promise, habit)), True)
        run, world = self.timed(lambda: counters.meeting(promise, habit, table))
        self.assertIs(self.timed(lambda: counters.does_counter(promise, table, run)), True)
        self.assertEqual(self.timed(lambda: counters.last_world(promise, table, run)), world)
        self.assertEqual(runs.winner(promise, run, world), "caller")
        calls = tuple((place, index) for place, index in places.calls(promise, "keeper") if index == 1)
        run = self.timed(lambda: counters.caller_wins(promise, table, calls))
        self.assertIsNone(self.timed(lambda: counters.due_counter(promise, table, run)))

    def test_bridges_at_many_positions(self):
        self.assertEqual([len(places.positions(one)) for one in (SIDE, OTHER_SIDE)], [125, 160])
        for one, other in ((SIDE, OTHER_SIDE), (SIDE, SIDE)):
            whole = self.timed(lambda: leads.bridge(one, other))
            word, table = self.timed(lambda: leads.order_paper(one, other))
            self.assertIs(self.timed(lambda: leads.leads(one, other)), word == "leads")
            self.assertIs(self.timed(lambda: leads.are_alike(one, other)), word == "leads")
            self.assertIs(self.timed(lambda: leads.is_order_paper(one, other, (word, table))), True)
            self.assertEqual(kept.is_kept(whole), word == "leads")
        table = self.timed(lambda: leads.copy_table(SIDE))
        found = self.timed(lambda: leads.joined_plan(SIDE, SIDE, SIDE, table, table))
        self.assertIs(self.timed(lambda: plans.is_plan(leads.bridge(SIDE, SIDE), found)), True)
        self.assertIs(self.timed(lambda: shapes.is_exchange(SIDE, (), SIDE, found)), True)
        self.assertEqual(self.timed(lambda: books.follows((SIDE,), SIDE)), True)
        self.assertEqual(self.timed(lambda: books.least_parts((SIDE,), OTHER_SIDE)), ())
        self.assertEqual(self.timed(lambda: books.needed((SIDE,), SIDE)), (0,))
        self.assertEqual(self.timed(lambda: books.without_any((SIDE,), OTHER_SIDE)), (False,))
        self.assertEqual(self.timed(lambda: books.book_paper((SIDE,), OTHER_SIDE))[0], "not")
        others = [Promise.read(f"({FIVE} & {FIVE} & [a + b + c + {word}])") for word in "abef"]
        order = self.timed(lambda: leads.Order(SIDE, *others, SIDE), most=12)
        self.assertEqual([order.classes[0], len(order)], [(0, 5), 6])

    def test_bridges_with_more_positions_than_are_let(self):
        more = Promise.read(f"({FIVE} & {FOUR} & {FOUR} & [a + b])")
        self.assertEqual(len(places.positions(more)), 240)
        for call in (lambda: leads.bridge(SIDE, more), lambda: leads.leads(more, SIDE), lambda: leads.are_alike(SIDE, more),
                     lambda: leads.order_paper(SIDE, more), lambda: leads.is_order_paper(SIDE, more, None),
                     lambda: leads.copy_table(more), lambda: leads.joined_plan(SIDE, more, SIDE, None, None),
                     lambda: leads.Order(more), lambda: leads.Order(SIDE, more), lambda: leads.Order(SIDE).with_promise(more),
                     lambda: shapes.is_exchange(SIDE, (), more, None), lambda: books.follows((SIDE,), more),
                     lambda: books.needed((SIDE,), more), lambda: books.least_parts((SIDE,), more),
                     lambda: books.book_paper((SIDE,), more), lambda: books.is_book_paper((SIDE,), more, None),
                     lambda: books.without_any((SIDE,), more), lambda: books.Book((SIDE,)).keeps(more)):
            self.too_many(call)
        # What asks for no position is answered all the same.
        self.assertEqual(books.claim((SIDE,), more).parts, (-SIDE, more))
        self.assertEqual(len(books.Book((SIDE, more)).joined().parts), 2)
        for promise in (OVER, TEN, FOURS):
            self.assertEqual(len(self.timed(lambda: shapes.paths(promise))), len(promise))
            self.assertIs(self.timed(lambda: shapes.is_tidy(shapes.tidied(promise))), True)
            self.assertEqual(shapes.exchanged(promise, (), SIDE), SIDE)
            self.too_many(lambda: leads.leads(promise, Promise.sure()))
            self.assertIs(sets.is_world_set(promise, ((),)), True)

    def test_sets_at_many_positions(self):
        for promise in (COPIED, -COPIED, FULL):
            every = tuple(worlds.worlds(promise))
            for chosen in ((), every[:1], every[1:]):
                word, table = self.timed(lambda: sets.set_paper(promise, chosen))
                self.assertIs(self.timed(lambda: sets.is_set_paper(promise, chosen, (word, table))), True)
                self.assertIs(self.timed(lambda: sets.is_kept_in(promise, chosen)), word == "kept")
            found = self.timed(lambda: sets.greatest_sets(promise), most=20)
            self.assertEqual(found == (every,), kept.is_kept(promise))
            self.assertIs(self.timed(lambda: sets.is_kept_alone(promise)), kept.is_kept(promise))
            self.assertEqual(self.timed(lambda: sets.least_facts(promise)), ((),) if kept.is_kept(promise) else ())
            paper = self.timed(lambda: sets.knowing_paper(promise, promise.facts), most=12)
            self.assertIs(self.timed(lambda: sets.is_knowing_paper(promise, promise.facts, paper), most=12), True)

    def test_greatest_sets_of_six_facts(self):
        for text in (
            "(([a + b + c + d] & [e + f + !a + !b]) | ([a + !b + c + e] & [b + !c + d + f]) | [a + !d + !f + e])",
            "(([a * b] | [c + d]) & ([a * e] | [b + f]) & ([!a * c] | [d + f]) & ([!b * !c] | [!d + !e]))",
            "([a * b * c * d] | ([a + b + e] & [c + d + f]) | [e * f * !e * !f] | ([!a + e + !b] & [!b + f + !d]))",
            "(([!a + !f + !b + f] | [c + !d + !c + d]) | [[d * !e * !b * !a] * [!e * !f * b] * e])",
            "([b * (!c & d) * [f + !d + f]] | [[a + !a] + [d * c * !c]] | [(!d | !f) + [e + !e]])",
        ):
            promise = Promise.read(text)
            try:
                found = self.timed(lambda: sets.greatest_sets(promise), most=20)
            except TooMany as error:
                self.assertEqual(error.limit, 2000)
                continue
            self.assertLessEqual(len(found), 2000)
            for one in found[::50]:
                self.assertIs(sets.is_kept_in(promise, one), True)

    def test_asking_at_many_positions(self):
        for promise in (COPIED, -COPIED, FULL):
            for most in (1, 6):
                self.assertIs(self.timed(lambda: asking.is_kept_asking(promise, most)), kept.is_kept(promise))
                paper = self.timed(lambda: asking.asking_paper(promise, most), most=12)
                self.assertIs(self.timed(lambda: asking.is_asking_paper(promise, most, paper), most=12), True)
            self.assertEqual(self.timed(lambda: asking.questions(promise)), 0 if kept.is_kept(promise) else None)
            self.assertEqual(self.timed(lambda: asking.good_questions(promise, 6)), promise.facts if kept.is_kept(promise) else ())
        asker = self.timed(lambda: asking.Asker(COPIED, 6))
        for place, index in places.calls(COPIED, "caller"):
            if index == 1:
                self.timed(lambda: asker.hear(place, index), most=1)
                wish = self.timed(asker.wish, most=1)
                while wish is not None:
                    if isinstance(wish, str):
                        asker.tell(wish, wish in ("a", "d"))
                    else:
                        self.assertEqual(asker.go(), wish)
                    wish = asker.wish()
        self.assertIs(worlds.does_hold(asker.position, tuple(
            fact for fact in asker.position.facts if fact in ("a", "d"))), True)
        for promise in (OVER, TEN, FOURS):
            for call in (lambda: asking.is_kept_asking(promise, 0), lambda: asking.questions(promise),
                         lambda: asking.asking_paper(promise, 1), lambda: asking.is_asking_paper(promise, 1, None),
                         lambda: asking.good_questions(promise, 1), lambda: asking.Asker(promise, 6)):
                self.too_many(call)

    def test_a_text_that_is_no_position(self):
        with self.assertRaises(InvalidOperation):
            self.timed(lambda: places.calls_to(FULL, "a"))


if __name__ == "__main__":
    unittest.main()
