"""[12.1] to [12.3]: sets of worlds, greatest sets, and what is kept knowing facts."""

import random
import unittest

from eitherhand.base.places import board_of, positions
from eitherhand.base.promises import Promise
from eitherhand.errors import (
    InvalidOperation, InvalidPromise, InvalidWorld, TooMany, UnknownFact,
)
from eitherhand.given import greatest
from eitherhand.given.sets import (
    greatest_sets, is_kept_alone, is_kept_in, is_kept_knowing, is_knowing_paper, is_set_paper, is_world_set,
    knowing_paper, least_facts, set_paper,
)
from eitherhand.keep.kept import is_kept
from eitherhand.keep.counters import is_counter
from eitherhand.keep.plans import is_plan
from samples import A, COPY, HALF, PICK, TEXTS, TWICE, all_sorts, no_promises, varied
import reference

LATER = Promise.read("[[a + !a] * [b + !b]]")
TWO = [*[Promise.read(text) for text in TEXTS[:4]], PICK, COPY, HALF, LATER, *varied(61, 90, most=4)]
TWO = [one for one in TWO if len(one.facts) <= 2]
THREE = [TWICE, *varied(62, 60, most=4, facts="abc")]
THREE = [one for one in THREE if len(one.facts) <= 3 and len(reference.game(one.text)) <= 60]


def some_sets(promise, rng, many=6):
    """Some sets of worlds of a promise, the empty one and the whole one among them."""
    every = reference.worlds(promise)
    found = [(), tuple(every)]
    for _ in range(many):
        found.append(tuple(one for one in every if rng.random() < rng.choice((0.2, 0.5, 0.8))))
    return found


def is_set_plan(text, chosen, table):
    """Whether a dict is a plan for a set, word by word as in [12.1]."""
    if text not in table or any(key not in reference.game(text) for key in table):
        return False
    for key, told in table.items():
        if told is None:
            if not reference.holds_in(key, chosen):
                return False
            if any(behind not in table for _, behind in reference.ways(text, key, "caller")):
                return False
        elif dict(reference.ways(text, key, "keeper")).get(told) not in table:
            return False
    return True


def is_set_counter(text, chosen, table):
    """Whether a dict is a counter for a set, word by word as in [12.1]."""
    if text not in table or any(key not in reference.game(text) for key in table):
        return False
    for key, told in table.items():
        if told[0] == "rest":
            if told[1] not in chosen or reference.holds_in(key, (told[1],)):
                return False
            if any(behind not in table for _, behind in reference.ways(text, key, "keeper")):
                return False
        elif dict(reference.ways(text, key, "caller")).get(told[1:]) not in table:
            return False
    return True


class WorldSetTest(unittest.TestCase):
    def test_sets(self):
        for promise in TWO:
            for one in reference.sets_of(reference.worlds(promise)):
                self.assertIs(is_world_set(promise, one), True)

    def test_values_near_sets(self):
        for value in [
            (("a",), ()), ((), ()), (("a",), ("a",)), [()], ([],), (["a"],), ((), ["a"]), (("c",),), (("b", "a"),),
            (("a", "a"),), ("a",), ("",), (None,), ((None,),), ((True,),), {(): True}, "", None, 0, ((), ("b",), ("a", "b")),
            (((),),), (("a", ("b",)),), ((), ("a", "b", "c")),
        ]:
            self.assertIs(is_world_set(COPY, value), False)
        self.assertIs(is_world_set(COPY, ((), ("a",), ("a", "b"), ("b",))), True)
        self.assertIs(is_world_set(Promise.sure(), ((),)), True)
        self.assertIs(is_world_set(Promise.sure(), ()), True)
        self.assertIs(is_world_set(Promise.sure(), (("a",),)), False)
        for value in all_sorts():
            self.assertIs(is_world_set(PICK, value), value == ())

    def test_a_promise_with_many_positions_can_be_asked(self):
        more = Promise.read("(([a + b + c + d] & [a + b + c + d] & [a + b + c + d]) & ([a + b + c + d] & [a + b + c + d]"
                            " & [a + b + c + d] & [c + c]))")
        self.assertIs(is_world_set(more, ((), ("a",))), True)
        for call in (lambda: is_kept_in(more, ()), lambda: set_paper(more, ()), lambda: is_set_paper(more, (), None),
                     lambda: greatest_sets(more), lambda: is_kept_alone(more), lambda: is_kept_knowing(more, ("a",)),
                     lambda: least_facts(more), lambda: knowing_paper(more, ()), lambda: is_knowing_paper(more, (), None)):
            with self.assertRaises(TooMany) as caught:
                call()
            self.assertEqual(caught.exception.limit, 20000)


class KeptInTest(unittest.TestCase):
    def test_by_another_reading(self):
        rng = random.Random(63)
        found = {True: 0, False: 0}
        for promise in [*TWO, *THREE]:
            for one in some_sets(promise, rng):
                expected = promise.text in reference.kept_in(promise.text, one)
                found[expected] += 1
                self.assertIs(is_kept_in(promise, one), expected)
        self.assertGreater(min(found.values()), 100)

    def test_the_empty_set_and_the_set_of_all_worlds(self):
        for promise in [*TWO, *THREE, Promise.never()]:
            self.assertIs(is_kept_in(promise, ()), True)
            self.assertIs(is_kept_in(promise, tuple(reference.worlds(promise))), is_kept(promise))

    def test_a_part_of_a_set(self):
        rng = random.Random(64)
        for promise in THREE:
            for one in some_sets(promise, rng):
                if is_kept_in(promise, one):
                    self.assertIs(is_kept_in(promise, one[1:]), True)
                    self.assertIs(is_kept_in(promise, one[:-1]), True)

    def test_worlds_count_by_the_facts_that_are_left(self):
        one = Promise.read("[(a & b) + a]")
        self.assertIs(is_kept_in(one, (("a",), ("a", "b"))), True)
        self.assertIs(is_kept_in(one, (("a",), ("b",))), False)
        self.assertIs(is_set_paper(one, (("a",),), ("kept", {one.text: ((), 1), "a": None})), True)

    def test_kept_alone(self):
        for promise in [*TWO, *THREE]:
            expected = all(is_kept_in(promise, (world,)) for world in reference.worlds(promise))
            self.assertIs(is_kept_alone(promise), expected)
        self.assertEqual([is_kept(PICK), is_kept_alone(PICK), is_kept_alone(-PICK), is_kept_alone(A)],
                         [False, True, False, False])


class SetPaperTest(unittest.TestCase):
    def test_papers_told(self):
        rng = random.Random(65)
        for promise in [*TWO, *THREE]:
            for one in some_sets(promise, rng):
                word, table = set_paper(promise, one)
                self.assertEqual(word, "kept" if is_kept_in(promise, one) else "barred")
                self.assertEqual(list(table), sorted(table))
                judged = is_set_plan if word == "kept" else is_set_counter
                self.assertTrue(judged(promise.text, one, table))
                self.assertIs(is_set_paper(promise, one, (word, table)), True)
                for bad in (("barred" if word == "kept" else "kept", table), [word, table], (word,), (word, table, one),
                            (word, list(table)), table, (None, table), ("plan", table)):
                    self.assertIs(is_set_paper(promise, one, bad), False)

    def test_papers_near_them(self):
        rng = random.Random(66)
        judged = {True: 0, False: 0}
        for promise in [*TWO, *THREE]:
            every = reference.worlds(promise)
            for one in some_sets(promise, rng, 3):
                word, table = set_paper(promise, one)
                check = is_set_plan if word == "kept" else is_set_counter
                key = rng.choice(sorted(reference.game(promise.text)))
                hand = "keeper" if word == "kept" else "caller"
                entries = [call if word == "kept" else ("call", *call) for call, _ in reference.ways(promise.text, key, hand)]
                entries += [None] if word == "kept" else [("rest", world) for world in every]
                for told in entries:
                    near = {**table, key: told}
                    expected = check(promise.text, one, near)
                    judged[expected] += 1
                    self.assertIs(is_set_paper(promise, one, (word, near)), expected)
                less = {text: told for text, told in table.items() if text != rng.choice(sorted(table))}
                self.assertIs(is_set_paper(promise, one, (word, less)), check(promise.text, one, less))
        self.assertGreater(min(judged.values()), 60)

    def test_each_point(self):
        self.assertIs(is_set_paper(A, (("a",),), ("kept", {"a": None})), True)
        self.assertIs(is_set_paper(A, ((), ("a",)), ("kept", {"a": None})), False)
        self.assertIs(is_set_paper(A, ((),), ("barred", {"a": ("rest", ())})), True)
        self.assertIs(is_set_paper(A, (("a",),), ("barred", {"a": ("rest", ())})), False)
        self.assertIs(is_set_paper(A, ((), ("a",)), ("barred", {"a": ("rest", ("a",))})), False)
        self.assertIs(is_set_paper(A, (), ("kept", {"a": None})), True)
        # A world is told with all its facts, also where a position has fewer.
        one = Promise.read("[(a & b) + a]")
        for world in ((), ("b",)):
            table = {one.text: ("rest", world), "(a & b)": ("rest", world), "a": ("rest", world)}
            self.assertIs(is_set_paper(one, ((), ("b",)), ("barred", table)), True)
            self.assertIs(is_set_paper(one, ((), ("b",)), ("barred", {**table, "a": ("rest", ())})), True)
            self.assertIs(is_set_paper(one, (("a",), ("b",)), ("barred", {**table, "a": ("rest", ())})), False)
            self.assertIs(is_set_paper(one, ((), ("b",)), ("barred", {**table, "a": ("rest", ["b"])})), False)
        pick = {PICK.text: ("rest", ()), "a": ("rest", ()), "!a": ("rest", ("a",))}
        self.assertIs(is_set_paper(PICK, ((), ("a",)), ("barred", pick)), True)
        self.assertIs(is_set_paper(PICK, ((),), ("barred", pick)), False)

    def test_all_worlds_are_as_none(self):
        for promise in [*TWO, *THREE]:
            every = tuple(reference.worlds(promise))
            word, table = set_paper(promise, every)
            self.assertIs((is_plan if word == "kept" else is_counter)(promise, table), True)

    def test_all_sorts(self):
        for value in all_sorts():
            for bad in (value, ("kept", value), ("barred", value), (value, {})):
                self.assertIs(is_set_paper(PICK, ((),), bad), False)

    def test_errors(self):
        for call in (lambda *told: is_kept_in(*told), lambda *told: set_paper(*told),
                     lambda *told: is_set_paper(*told, None)):
            for value in no_promises():
                with self.assertRaises(InvalidPromise):
                    call(value, None)
            for value in [value for value in all_sorts() if value != ()] + [[()], (("c",),), ((), ())]:
                with self.assertRaises(InvalidWorld):
                    call(PICK, value)


class GreatestTest(unittest.TestCase):
    def test_by_another_reading(self):
        lengths = set()
        for promise in [*TWO, *[one for one in THREE if len(reference.game(one.text)) <= 24][:24]]:
            found = greatest_sets(promise)
            self.assertEqual(found, reference.greatest_sets(promise.text))
            lengths.add(len(found))
        self.assertGreater(len(lengths), 3)

    def test_order_and_parts(self):
        for promise in [*THREE, *varied(67, 40, most=5, facts="abcdef")]:
            found = greatest_sets(promise)
            self.assertEqual(list(found), sorted(set(found)))
            for one in found:
                self.assertIs(is_world_set(promise, one), True)
                self.assertIs(is_kept_in(promise, one), True)
                for world in reference.worlds(promise):
                    if world not in one:
                        self.assertIs(is_kept_in(promise, tuple(sorted((*one, world)))), False)
                self.assertFalse(any(set(one) < set(other) for other in found))

    def test_given_ones(self):
        self.assertEqual(greatest_sets(A), ((("a",),),))
        self.assertEqual(greatest_sets(Promise.never()), ((),))
        self.assertEqual(greatest_sets(Promise.sure()), (((),),))
        self.assertEqual(greatest_sets(COPY), (((), ("a",), ("a", "b"), ("b",)),))
        self.assertEqual(greatest_sets(Promise.read("[a + b]")), ((("a",), ("a", "b")), (("a", "b"), ("b",))))
        self.assertEqual(greatest_sets(Promise.read("[a * b]")), ((("a", "b"),),))

    def test_the_two_ways_to_what_is_common(self):
        rng = random.Random(68)
        for _ in range(400):
            every = range(1 << rng.choice((3, 5, 8)))
            mask = every[-1]
            heard = [tuple(greatest.family_of(rng.sample(every, rng.randrange(1, 7)))) for _ in range(rng.randrange(1, 5))]
            calling = greatest.family_of(rng.sample(every, rng.randrange(0, 4)))
            one = greatest.family_of([*greatest._in_common(mask, heard, calling, 10 ** 6), *calling])
            other = greatest.family_of([*greatest._searched(mask, heard, calling, 10 ** 6), *calling])
            self.assertEqual(one, other)
            plain = [mask]
            for family in heard:
                plain = [part & chosen for part in plain for chosen in family]
            self.assertEqual(one, self.greatest_of([*plain, *calling]))
            # What is found one by one is counted just as it is outside of what is within a call's sets.
            outside = [part for part in self.greatest_of(plain) if not greatest.is_within(part, calling)]
            self.assertEqual(sorted(greatest._searched(mask, heard, calling, len(outside))), sorted(outside))
            if outside:
                with self.assertRaises(TooMany) as caught:
                    greatest._searched(mask, heard, calling, len(outside) - 1)
                self.assertEqual(caught.exception.limit, len(outside) - 1)

    def greatest_of(self, masks):
        """The greatest ones of some masks."""
        return sorted({one for one in masks if not any(one & other == one != other for other in masks)}, reverse=True)

    def test_a_lesser_limit_is_met_exactly(self):
        for promise in [*THREE[:30], *varied(73, 30, most=5, facts="abcd")]:
            board = board_of(promise)
            most = max(len(greatest.greatest_on(board_of(Promise.read(text)), 10 ** 6)) for text in board.texts)
            self.assertEqual(len(greatest.greatest_on(board, most)), len(greatest_sets(promise)))
            with self.assertRaises(TooMany):
                greatest.greatest_on(board, most - 1)

    def test_families(self):
        rng = random.Random(69)
        for _ in range(60):
            masks = [rng.getrandbits(rng.choice((4, 9))) | rng.getrandbits(9) for _ in range(rng.choice((1, 5, 200)))]
            self.assertEqual(greatest.family_of(masks), self.greatest_of(masks))
        for _ in range(12):
            masks = [rng.getrandbits(20) for _ in range(250)]
            masks += [one & rng.getrandbits(20) for one in masks]
            found = self.greatest_of(masks)
            self.assertGreater(len(found), greatest.FEW)
            masks += [one & ~(1 << rng.randrange(20)) for one in found]
            self.assertEqual(greatest.family_of(masks), found)

    def test_six_facts(self):
        alone = Promise.read("(([a + !a] & [b + !b] & [c + !c]) & [d + !d] & [e + !e] & [f + !f])")
        self.assertEqual(greatest_sets(alone), tuple((world,) for world in reference.worlds(alone)))
        self.assertEqual(len(greatest_sets(Promise.read(
            "(([a + b] & [c + d]) | ([a + e] & [b + f]) | ([!a + c] & [d + f]) | ([!b + !c] & [!d + !e]))"))), 104)

    def test_more_than_are_let(self):
        promise = Promise.read("([[c * !a] * [!d * d * b * !d]] | [!a + (d & !d) + [e + b] + !e] | [(c & !e) + (!c & !f) + "
                               "[a * e * f]])")
        with self.assertRaises(TooMany) as caught:
            greatest_sets(promise)
        self.assertEqual(caught.exception.limit, 2000)
        board = board_of(promise)
        found = greatest.greatest_on(board, 10 ** 6)
        self.assertEqual([len(found), len(set(found))], [4431, 4431])
        for mask in found[::400]:
            self.assertIs(is_kept_in(promise, board.worlds_in(mask)), True)
            for world in board.world_list:
                more = mask | board.mask_of_worlds((world,))
                self.assertIs(is_kept_in(promise, board.worlds_in(more)), more == mask)
        # More than 2000 lie on the way to fewer greatest sets.
        text = "(([e * !d * !c * !c] & [!f + !b + c] & [!d + a + c] & [!e * !c]) | [[!a + !e + d] + [!d + !f]])"
        found = greatest_sets(Promise.read(text))
        self.assertEqual(list(found), sorted(set(found)))

    def test_errors(self):
        for value in no_promises():
            for call in (greatest_sets, is_kept_alone, least_facts):
                with self.assertRaises(InvalidPromise):
                    call(value)


class KnowingTest(unittest.TestCase):
    def test_by_another_reading(self):
        for promise in [*TWO, *THREE]:
            for facts in reference.sets_of(promise.facts):
                self.assertIs(is_kept_knowing(promise, facts), reference.kept_knowing(promise.text, facts))
            self.assertIs(is_kept_knowing(promise, ()), is_kept(promise))
            self.assertIs(is_kept_knowing(promise, promise.facts), is_kept_alone(promise))

    def test_least_facts(self):
        lengths = set()
        for promise in [*TWO, *THREE, *varied(70, 40, most=3, facts="abc")]:
            found = least_facts(promise)
            self.assertEqual(found, reference.least_facts(promise.text))
            lengths.add(len(found))
        self.assertLessEqual({0, 1}, lengths)
        two = Promise.read("([a + !a] | [b + !b])")
        self.assertEqual([least_facts(two), least_facts(COPY), least_facts(A), least_facts(LATER), least_facts(Promise.sure())],
                         [(("a",), ("b",)), ((),), (), (("a", "b"),), ((),)])

    def test_six_facts(self):
        alone = Promise.read("(([a + !a] & [b + !b] & [c + !c]) & [d + !d] & [e + !e] & [f + !f])")
        self.assertEqual(least_facts(alone), (("a", "b", "c", "d", "e", "f"),))
        some = Promise.read("(([a + !a] & [b + !b] & [c + !c]) | ([d + !d] & [e + !e]) | [f + !f])")
        self.assertEqual(least_facts(some), (("a", "b", "c"), ("d", "e"), ("f",)))

    def test_papers_told(self):
        for promise in [*TWO, *THREE]:
            for facts in reference.sets_of(promise.facts):
                paper = knowing_paper(promise, facts)
                self.assertEqual(paper[0], "kept" if is_kept_knowing(promise, facts) else "barred")
                self.assertIs(is_knowing_paper(promise, facts, paper), True)
                if paper[0] == "kept":
                    self.assertEqual(list(paper[1]), reference.sets_of(facts))
                    for told, table in paper[1].items():
                        self.assertTrue(is_set_plan(promise.text, self.chosen(promise, facts, told), table))
                else:
                    self.assertEqual(len(paper), 3)
                    self.assertTrue(is_set_counter(promise.text, self.chosen(promise, facts, paper[1]), paper[2]))
                self.papers_near(promise, facts, paper)

    def chosen(self, promise, facts, told):
        """The set of the worlds in which, of some facts, just those hold that are told."""
        return reference.agreeing(promise, tuple((fact, fact in told) for fact in facts))

    def papers_near(self, promise, facts, paper):
        """Papers that differ by little from a right one."""
        near = [list(paper), paper[:-1], (*paper, ()), ("barred" if paper[0] == "kept" else "kept", *paper[1:])]
        if paper[0] == "kept":
            for told in paper[1]:
                near.append(("kept", {one: table for one, table in paper[1].items() if one != told}))
                near.append(("kept", {**paper[1], told: {}}))
                near.append(("kept", {**paper[1], told: None}))
            near += [("kept", {**paper[1], ("zz",): {promise.text: None}}), ("kept", list(paper[1].items())), paper[1],
                     ("kept", {str(told): table for told, table in paper[1].items()})]
        else:
            near += [("barred", list(paper[1]), paper[2]), ("barred", ("zz",), paper[2]), ("barred", paper[1], {}),
                     ("barred", paper[1], None), ("barred", paper[2]), ("barred", paper[2], paper[1]),
                     ("barred", None, paper[2])]
        for bad in near:
            self.assertIs(is_knowing_paper(promise, facts, bad), False)

    def test_a_plan_that_is_wrong(self):
        good = {(): {PICK.text: ((), 1), "!a": None}, ("a",): {PICK.text: ((), 0), "a": None}}
        self.assertIs(is_knowing_paper(PICK, ("a",), ("kept", good)), True)
        self.assertIs(is_knowing_paper(PICK, ("a",), ("kept", {(): good[("a",)], ("a",): good[()]})), False)
        self.assertIs(is_knowing_paper(PICK, ("a",), ("kept", {**good, (): good[("a",)]})), False)
        more = {**good[()], "a": ((), 0)}
        self.assertIs(is_knowing_paper(PICK, ("a",), ("kept", {**good, (): more})), False)
        one = Promise.read("([a + !a] & b)")
        every = {**{told: None for told in ((), ("a",))}}
        self.assertIs(is_knowing_paper(one, ("a",), ("kept", every)), False)
        counter = {text: ("rest", ()) for text in positions(one)}
        self.assertIs(is_knowing_paper(one, ("a",), ("barred", (), counter)), True)
        self.assertIs(is_knowing_paper(one, ("a",), ("barred", ("a",), counter)), False)
        counter = {text: ("rest", ("a",)) for text in positions(one)}
        self.assertIs(is_knowing_paper(one, ("a",), ("barred", ("a",), counter)), True)
        self.assertIs(is_knowing_paper(one, ("a", "b"), ("barred", ("a",), counter)), True)
        self.assertIs(is_knowing_paper(one, ("a", "b"), ("barred", ("b", "a"), counter)), False)

    def test_all_sorts(self):
        for value in all_sorts():
            for bad in (value, ("kept", value), ("barred", value), ("barred", (), value), ("barred", value, {}), (value,)):
                self.assertIs(is_knowing_paper(PICK, ("a",), bad), False)

    def test_facts(self):
        for call in (is_kept_knowing, knowing_paper, lambda *told: is_knowing_paper(*told, None)):
            for bad in [*[value for value in all_sorts() if value not in ((), ("a",))], ("b", "a"), ("a", "a"), ["a"],
                        ("yes",), ("a", 1), ("c", "a"), ("A",), ("", "a"), ("c", None)]:
                with self.assertRaises(InvalidOperation):
                    call(COPY, bad)
                with self.assertRaises(InvalidPromise):
                    call(None, bad)
            for facts, lacking in ((("c",), "c"), (("a", "c", "d"), "c"), (("aa", "b", "c"), "aa")):
                with self.assertRaises(UnknownFact) as caught:
                    call(COPY, facts)
                self.assertEqual(caught.exception.asked, lacking)
            self.assertIsNotNone(call(COPY, ("a", "b")))


if __name__ == "__main__":
    unittest.main()
