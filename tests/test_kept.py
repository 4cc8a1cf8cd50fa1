"""[0.17], [7.1] and the main statements: which promises are kept, and the class `Keeper`."""

import random
import unittest

from eitherhand.base.places import called
from eitherhand.base.promises import Promise
from eitherhand.errors import (
    InvalidCall, InvalidNumber, InvalidPromise, NotKept, NothingToUndo,
)
from eitherhand.keep import kept
from eitherhand.keep.counters import is_counter
from eitherhand.keep.kept import (
    Keeper, good_calls, hurting_calls, is_kept, is_kept_paper, kept_paper, kept_positions, may_wait, plan_for,
)
from eitherhand.keep.plans import is_plan
from eitherhand.play.runs import played, winner
from samples import (
    A, COPY, COPY_PLAN, HALF, PICK, PICK_COUNTER, TEXTS, TWICE, all_sorts, equal_ones, no_promises, varied,
)
import reference

SOME = [*[Promise.read(text) for text in TEXTS], TWICE, HALF, *varied(31, 160), *varied(32, 60, facts="abc")]
KEPT = [one for one in SOME if one.text in reference.kept(one.text)]
LOST = [one for one in SOME if one.text not in reference.kept(one.text)]


def tables_of(promise, entries):
    """All dicts from texts of positions of a small promise to entries."""
    tables = [{}]
    for key in sorted(reference.game(promise.text)):
        tables = [*tables, *[{**table, key: told} for table in tables for told in entries(key)]]
    return tables


class KeptTest(unittest.TestCase):
    def test_the_constant(self):
        self.assertEqual(kept.MAX_POSITIONS, 20000)
        self.assertGreater(min(len(KEPT), len(LOST)), 50)

    def test_all_positions(self):
        for promise in SOME:
            won = reference.kept(promise.text)
            self.assertIs(is_kept(promise), promise.text in won)
            found = kept_positions(promise)
            self.assertIs(type(found), tuple)
            self.assertEqual(list(found), sorted(won))
            for text in sorted(reference.game(promise.text))[:40]:
                self.assertIs(is_kept(Promise.read(text)), text in won)

    def test_calls(self):
        for promise in SOME:
            won = reference.kept(promise.text)
            for text in sorted(reference.game(promise.text))[:40]:
                one = Promise.read(text)
                good = [call for call, behind in reference.ways(promise.text, text, "keeper") if behind in won]
                hurting = [call for call, behind in reference.ways(promise.text, text, "caller") if behind not in won]
                self.assertEqual(good_calls(one), tuple(sorted(good)))
                self.assertEqual(hurting_calls(one), tuple(sorted(hurting)))
                self.assertIs(may_wait(one), reference.stable(text) and not hurting)

    def test_given_calls(self):
        one = Promise.read("([(a | !a) + b + yes] & [no * a])")
        self.assertEqual([good_calls(one), hurting_calls(one)], [(), (((1,), 0), ((1,), 1))])
        one = Promise.read("([(a | !a) + b + yes] | [no * a])")
        self.assertEqual([good_calls(one), hurting_calls(one), may_wait(one)], [(((0,), 0), ((0,), 2)), (), True])
        self.assertEqual([good_calls(A), hurting_calls(A), may_wait(A), may_wait(Promise.sure())], [(), (), False, True])

    def test_stable_promises_that_may_not_wait(self):
        for text in ("[a * (a | !a)]", "([!b + !c] | ([b * c] & [b * c]))", "[[a + !a] * yes]"):
            self.assertIs(reference.stable(text), True)
            self.assertIs(may_wait(Promise.read(text)), False)
        for text in ("([a + b] | !a)", "[yes + no]"):
            self.assertEqual([is_kept(Promise.read(text)), may_wait(Promise.read(text))], [True, False])

    def test_papers(self):
        for promise in SOME:
            word, table = kept_paper(promise)
            self.assertEqual(list(table), sorted(table))
            self.assertIs(is_kept_paper(promise, (word, table)), True)
            if promise.text in reference.kept(promise.text):
                self.assertEqual(word, "plan")
                for found in (table, plan_for(promise)):
                    self.assertTrue(reference.is_plan(promise.text, found))
                    self.assertIs(is_plan(promise, found), True)
                    self.assertEqual(list(found), sorted(found))
                self.assertIs(is_kept_paper(promise, ("counter", table)), False)
            else:
                self.assertEqual(word, "counter")
                self.assertTrue(reference.is_counter(promise.text, table))
                self.assertIs(is_counter(promise, table), True)
                self.assertIs(is_kept_paper(promise, ("plan", table)), False)
                with self.assertRaises(NotKept) as caught:
                    plan_for(promise)
                self.assertEqual(caught.exception.wanted, promise.text)

    def test_papers_of_others_and_other_values(self):
        rng = random.Random(33)
        for promise in KEPT:
            self.assertIs(is_kept_paper(promise, ("plan", reference.random_table(promise.text, "keeper", rng))), True)
        for promise in LOST:
            self.assertIs(is_kept_paper(promise, ("counter", reference.random_table(promise.text, "caller", rng))), True)
        self.assertIs(is_kept_paper(COPY, ("plan", COPY_PLAN)), True)
        for value in [*all_sorts(), COPY_PLAN, ["plan", COPY_PLAN], ("plan", COPY_PLAN, 0), ("plan",), ("Plan", COPY_PLAN),
                      (COPY_PLAN, "plan"), ("counter", COPY_PLAN), ("plan", PICK_COUNTER), ("plan", None), (None, COPY_PLAN)]:
            self.assertIs(is_kept_paper(COPY, value), False)
            self.assertIs(is_kept_paper(PICK, value), False)
        for value in all_sorts():
            self.assertIs(is_kept_paper(COPY, ("plan", value)), False)
            self.assertIs(is_kept_paper(PICK, ("counter", value)), False)
            self.assertIs(is_kept_paper(PICK, (value, PICK_COUNTER)), False)

    def test_a_plan_or_a_counter_and_never_both(self):
        for text in ("[a + !a]", "([a + b] | !a)", "[(a | !a) * a]", "[(a | !a) + a]", "a", "yes", "[yes * [a + b]]",
                     "[no + [a * yes]]", "[a * a]", "[(a | !a) * (b | !b)]"):
            promise = Promise.read(text)
            resting = [("rest", world) for world in reference.worlds(promise)]
            calls = {
                hand: {key: [call for call, _ in reference.ways(text, key, hand)] for key in reference.game(text)}
                for hand in ("keeper", "caller")
            }
            planned = [one for one in tables_of(promise, lambda key: [None, *calls["keeper"][key]]) if is_plan(promise, one)]
            countered = [
                one for one in tables_of(promise, lambda key: [*resting, *[("call", *call) for call in calls["caller"][key]]])
                if is_counter(promise, one)
            ]
            self.assertEqual([bool(planned), bool(countered)], [is_kept(promise), not is_kept(promise)], text)

    def test_the_main_statements(self):
        rng = random.Random(34)
        for promise in SOME:
            self.assertFalse(is_kept(promise) and is_kept(-promise))
            bridge = -promise | promise if len(promise) <= 19 and promise.choices <= 5 and promise.depth < 8 else None
            if bridge is not None and len(reference.game(promise.text)) <= 60:
                self.assertIs(is_kept(bridge), True)
        for promise in KEPT:
            for place in reference.surface(promise):
                choice = reference.part(promise, place)
                parts = choice.parts
                if choice.kind == "mine" and len(parts) < 4:
                    at = rng.randrange(len(parts) + 1)
                    other = Promise.of("mine", (*parts[:at], rng.choice((A, COPY, Promise.never())), *parts[at:]))
                elif choice.kind == "yours":
                    other = Promise.of("yours", parts[1:]) if len(parts) > 2 else parts[rng.randrange(2)]
                else:
                    continue
                self.assertIs(is_kept(reference.exchanged(promise, place, other)), True)

    def test_all_and_mine(self):
        one = Promise.read("(a & [b + !c])")
        other = Promise.read("[(a & b) + (a & !c)]")
        self.assertEqual([is_kept(-one | other), is_kept(-other | one)], [True, True])
        one = Promise.read("(a & [b * !c])")
        other = Promise.read("[(a & b) * (a & !c)]")
        self.assertEqual([is_kept(-one | other), is_kept(-other | one)], [True, False])

    def test_other_facts(self):
        for promise in KEPT:
            self.assertIs(is_kept(promise.renamed({fact: "zz" for fact in promise.facts})), True)
            swapped = promise.renamed(dict(zip(promise.facts, reversed(promise.facts))))
            self.assertIs(is_kept(swapped), True)
        for promise in LOST:
            self.assertIs(is_kept(promise.renamed(dict(zip(promise.facts, "zyxwvu")))), False)
        # None of these may be relied on [0.21].
        self.assertEqual([is_kept(PICK), is_kept(with_all(PICK, "yes")), is_kept(with_all(PICK, "no"))], [False, True, True])
        put = Promise.read("([a + b] | [!a * !b])").put("a", Promise.read("[a * b]"))
        self.assertIs(is_kept(put), reference.kept(put.text) >= {put.text})
        self.assertEqual([is_kept(PICK), is_kept(-PICK)], [False, False])

    def test_runs_by_plans_are_won(self):
        for promise in [one for one in KEPT if len(reference.game(one.text)) < 60]:
            table = plan_for(promise)
            for run in reference.sound_runs(promise.text)[::7]:
                fine, going = reference.goes_by(promise.text, "keeper", table, run)
                if fine and going.due() is None:
                    for world in reference.worlds(promise):
                        self.assertEqual(winner(promise, run, world), "keeper")

    def test_no_promise(self):
        for value in no_promises():
            for function in (is_kept, plan_for, kept_paper, good_calls, hurting_calls, may_wait, kept_positions, Keeper,
                             lambda one: is_kept_paper(one, 3)):
                with self.assertRaises(InvalidPromise):
                    function(value)


def with_all(promise, text):
    """The promise with a plain one for each of its facts."""
    for fact in promise.facts:
        promise = promise.put(fact, Promise.read(text))
    return promise


class KeeperTest(unittest.TestCase):
    def refused(self, error, keeper, call):
        """The error of a call, behind which nothing is changed."""
        before = (keeper.promise, keeper.position, keeper.so_far, len(keeper), str(keeper))
        with self.assertRaises(error) as caught:
            call()
        self.assertEqual((keeper.promise, keeper.position, keeper.so_far, len(keeper), str(keeper)), before)
        return caught.exception

    def judge(self, keeper, promise, run):
        """What a keeper tells behind a run."""
        left = reference.end_of(promise.text, run)
        self.assertEqual([keeper.promise, keeper.position.text, keeper.so_far], [promise, left, tuple(run)])
        self.assertEqual([len(keeper), list(keeper)], [len(run), list(run)])
        self.assertEqual(str(keeper), f"{len(run)} moves, left {left}")
        self.assertTrue(all(move in keeper for move in run))
        self.assertIs(is_kept(keeper.position), True)

    def test_sessions(self):
        rng = random.Random(35)
        for promise in KEPT * 2:
            keeper = Keeper(promise)
            run = []
            for _ in range(14):
                there = reference.ways(promise.text, keeper.position.text, "caller")
                step = rng.choice(("hear", "hear", "answer", "settle", "back"))
                if step == "hear" and there:
                    call = rng.choice(there)[0]
                    self.assertIsNone(keeper.hear(*call))
                    run.append(("caller", *call))
                elif step == "answer":
                    waits = may_wait(keeper.position)
                    good = good_calls(keeper.position)
                    call = keeper.answer()
                    self.assertIs(call is None, waits)
                    if call is not None:
                        self.assertIn(call, good)
                        run.append(("keeper", *call))
                elif step == "settle":
                    calls = keeper.settle()
                    self.assertIs(type(calls), tuple)
                    run += [("keeper", *call) for call in calls]
                    self.assertIs(may_wait(keeper.position), True)
                    self.assertEqual([keeper.settle(), keeper.answer()], [(), None])
                elif step == "back" and run:
                    many = rng.randrange(len(run) + 1)
                    self.assertIsNone(keeper.back(many))
                    run = run[:len(run) - many]
                self.judge(keeper, promise, run)
            keeper.settle()
            self.assertEqual({winner(promise, keeper.so_far, one) for one in reference.worlds(promise)}, {"keeper"})

    def test_a_given_session(self):
        keeper = Keeper(COPY)
        self.assertEqual([keeper.answer(), keeper.settle(), str(keeper)], [None, (), f"0 moves, left {COPY.text}"])
        self.assertIsNone(keeper.hear(place=(1,), index=0))
        self.assertEqual([keeper.answer(), keeper.answer(), keeper.position.text], [((0,), 0), None, "(a | !a)"])
        self.assertEqual(keeper.so_far, (("caller", (1,), 0), ("keeper", (0,), 0)))

    def test_calls_that_are_not_there(self):
        keeper = Keeper(COPY)
        self.refused(InvalidCall, keeper, lambda: keeper.hear((0,), 0))
        keeper.hear((1,), 0)
        for place, index in [((1,), 0), ((0,), 0), ((0,), 1), ((1,), 1), ((), 0), ((2,), 0), ((1, 0), 0)]:
            self.refused(InvalidCall, keeper, lambda: keeper.hear(place, index))
        keeper.back()
        for place, index in [((True,), 0), ((1,), True), ((1,), False), ([1], 0), (1, 0), ((1,), -1), ((1,), 2), ("1", 0)]:
            self.refused(InvalidCall, keeper, lambda: keeper.hear(place, index))
        for value in all_sorts():
            self.refused(InvalidCall, keeper, lambda: keeper.hear(value, 0))
            if type(value) is not int or value not in (0, 1):
                self.refused(InvalidCall, keeper, lambda: keeper.hear((1,), value))

    def test_back(self):
        keeper = Keeper(COPY)
        self.refused(NothingToUndo, keeper, lambda: keeper.back())
        keeper.hear((1,), 1)
        keeper.settle()
        self.assertEqual(self.refused(NothingToUndo, keeper, lambda: keeper.back(3)).amount, 3)
        for value in [*all_sorts(), -1, True, False, 10 ** 60]:
            if type(value) is not int or value < 0 or value >= 10 ** 60:
                error = self.refused(InvalidNumber, keeper, lambda: keeper.back(value))
                self.assertEqual(error.number, value)
                self.assertIs(type(error.number), type(value))
        self.assertIsNone(keeper.back(0))
        self.assertEqual(len(keeper), 2)
        self.assertIsNone(keeper.back())
        self.assertEqual(keeper.answer(), ((0,), 1))
        self.assertIsNone(keeper.back(many=2))
        self.judge(keeper, COPY, [])

    def test_not_kept(self):
        for promise in LOST:
            with self.assertRaises(NotKept) as caught:
                Keeper(promise)
            self.assertEqual(caught.exception.wanted, promise.text)

    def test_membership_and_equality(self):
        one = Keeper(COPY)
        one.hear((1,), 0)
        self.assertIs(("caller", (1,), 0) in one, True)
        for value in [*all_sorts(), ("caller", (True,), 0), ("caller", (1,), False), ["caller", (1,), 0], ((1,), 0),
                      ("keeper", (0,), 0), ("caller", (1,), 1)]:
            self.assertIs(value in one, False)
        two = Keeper(COPY)
        self.assertIs(one == two, False)
        two.hear((1,), 0)
        self.assertIs(one == two, True)
        self.assertIs(one != two, False)
        self.assertNotEqual(Keeper(Promise.sure()), Keeper(Promise.read("(a | !a)")))
        for value in [*all_sorts(), COPY, one.so_far]:
            self.assertIs(Keeper(COPY) == value, False)
            self.assertIs(Keeper(COPY) != value, True)
        self.assertEqual(equal_ones(one), ["Keeper"])

    def test_no_state_is_shared(self):
        keeper = Keeper(COPY)
        keeper.hear((1,), 0)
        moves, run = iter(keeper), keeper.so_far
        keeper.settle()
        self.assertEqual([list(moves), run], [[("caller", (1,), 0)]] + [(("caller", (1,), 0),)])
        self.assertEqual(len(Keeper(keeper.promise)), 0)
        self.assertEqual(played(COPY, keeper.so_far), keeper.position)
        self.assertEqual(called(COPY, ((1,), 0)).text, HALF.text)

    def test_properties_cannot_be_set(self):
        for name in ("promise", "position", "so_far"):
            with self.assertRaises(AttributeError):
                setattr(Keeper(COPY), name, ())


if __name__ == "__main__":
    unittest.main()
