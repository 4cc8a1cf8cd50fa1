"""[0.13], [0.15], [0.16]: plans, runs that go by them, and the class `Plan`."""

import random
import unittest

from eitherhand.base.promises import Promise
from eitherhand.errors import InvalidCall, InvalidOperation, InvalidPlan, InvalidPromise, InvalidRun
from eitherhand.keep.plans import Plan, answered, does_go_by, due_call, is_plan, taken_up
from eitherhand.play.runs import winner
from samples import A, COPY, COPY_PLAN, HALF, PICK, TWICE, all_sorts, equal_ones, no_promises, varied
import reference

KEPT = [one for one in [COPY, HALF, *varied(21, 260, most=5)] if one.text in reference.kept(one.text)]
SMALL = [one for one in KEPT if len(reference.game(one.text)) <= 90]


def plans(seed=1, many=2, promises=KEPT):
    """Pairs of a promise and a plan that is chosen at random."""
    rng = random.Random(seed)
    return [(one, reference.random_table(one.text, "keeper", rng)) for one in promises for _ in range(many)]


def changed(table, key, told):
    """The table with another entry."""
    return {**table, key: told}


def without(table, key):
    """The table without an entry."""
    return {one: told for one, told in table.items() if one != key}


class IsPlanTest(unittest.TestCase):
    def test_there_are_enough_kept_promises(self):
        self.assertGreater(len(KEPT), 60)
        self.assertGreater(len([one for one in SMALL if one.choices >= 3]), 15)

    def test_plans(self):
        for promise, table in plans(many=4):
            self.assertTrue(reference.is_plan(promise.text, table))
            self.assertIs(is_plan(promise, table), True)
            self.assertIs(is_plan(promise, {key: table[key] for key in reversed(sorted(table))}), True)

    def test_a_key_too_few(self):
        for promise, table in plans():
            for key in table:
                less = without(table, key)
                self.assertIs(is_plan(promise, less), reference.is_plan(promise.text, less))
            self.assertIs(is_plan(promise, without(table, promise.text)), False)
            self.assertIs(is_plan(promise, {}), False)

    def test_further_keys(self):
        rng = random.Random(3)
        judged = [0, 0]
        for promise, table in plans(many=1):
            for key in rng.sample(sorted(reference.game(promise.text)), min(8, len(reference.game(promise.text)))):
                for told in [None, *[call for call, _ in reference.ways(promise.text, key, "keeper")]]:
                    more = changed(table, key, told)
                    expected = reference.is_plan(promise.text, more)
                    judged[expected] += 1
                    self.assertIs(is_plan(promise, more), expected)
            for key in ("", "a & b", " " + promise.text, "(zz | !zz)", (), None, True, 0, 1, ("a",), promise.text + " "):
                self.assertIs(is_plan(promise, changed(table, key, None)), False)
        self.assertGreater(min(judged), 30)

    def test_further_positions_are_let(self):
        table = {**COPY_PLAN, "(a | [!a * !b])": ((1,), 0)}
        self.assertIs(is_plan(COPY, table), False)
        self.assertIs(is_plan(HALF, {HALF.text: ((0,), 0), "(a | !a)": None}), True)
        more = Promise.read("([a + b + a] | !a)")
        self.assertIs(is_plan(more, {more.text: ((0,), 2), "(a | !a)": None}), True)
        two = Promise.read("([a + b] | !a | [yes + no])")
        table = {two.text: ((2,), 0), "([a + b] | !a | yes)": None, "(a | !a | [yes + no])": None}
        self.assertIs(is_plan(two, table), True)
        self.assertIs(is_plan(two, {**table, "(b | !a | [yes + no])": None}), False)
        self.assertIs(is_plan(two, {**table, "(b | !a | [yes + no])": ((2,), 0)}), False)
        self.assertIs(is_plan(two, {**table, "(b | !a | [yes + no])": ((2,), 0), "(b | !a | yes)": None}), True)

    def test_other_entries(self):
        rng = random.Random(4)
        judged = [0, 0]
        for promise, table in plans(seed=5):
            for key in rng.sample(sorted(table), min(6, len(table))):
                tellings = [None, ((), 0), ((0,), 1), ((1,), 0), ((1, 0), 0), ((0, 0, 0), 3)]
                for hand in ("keeper", "caller"):
                    tellings += [call for call, _ in reference.ways(promise.text, key, hand)]
                for told in tellings:
                    expected = reference.is_plan(promise.text, changed(table, key, told))
                    judged[expected] += 1
                    self.assertIs(is_plan(promise, changed(table, key, told)), expected)
        self.assertGreater(min(judged), 100)

    def test_entries_of_other_forms(self):
        base = {HALF.text: ((0,), 0), "(a | !a)": None}
        self.assertIs(is_plan(HALF, base), True)
        for told in [((False,), 0), ((0,), False), ((0,), True), [(0,), 0], ([0], 0), ((0,), 0, 0), ((0,),), (0, 0), "wait", 0,
                     ("keeper", (0,), 0), ("call", (0,), 0), ("rest", ()), ((0,), -2), ((-2,), 0), ((0,), 2), False, (), {}]:
            self.assertIs(is_plan(HALF, changed(base, HALF.text, told)), False, told)
        for value in all_sorts():
            if value is not None:
                self.assertIs(is_plan(COPY, changed(COPY_PLAN, COPY.text, value)), False)
        for told in (False, 0, (), "", ((), 0)):
            self.assertIs(is_plan(HALF, changed(base, "(a | !a)", told)), False, told)

    def test_waits_that_are_not_let(self):
        self.assertIs(is_plan(PICK, {PICK.text: None}), False)
        self.assertIs(is_plan(PICK, {PICK.text: ((), 0), "a": None}), False)
        self.assertIs(is_plan(A, {"a": None}), False)
        self.assertIs(is_plan(Promise.sure(), {"yes": None}), True)
        one = Promise.read("[(a | !a) * b]")
        self.assertIs(is_plan(one, {one.text: None, "(a | !a)": None}), False)
        self.assertIs(is_plan(one, {one.text: None, "(a | !a)": None, "b": None}), False)
        self.assertIs(is_plan(COPY, changed(COPY_PLAN, "([a + b] | !a)", None)), False)

    def test_all_tables_of_small_promises(self):
        for promise in [PICK, HALF, Promise.read("[(a | !a) * a]"), Promise.read("[(a | !a) + a]"), A, Promise.sure()]:
            keys = sorted(reference.game(promise.text))
            tables = [{}]
            for key in keys:
                told = [None, *[call for call, _ in reference.ways(promise.text, key, "keeper")], ((), 0)]
                tables = [*tables, *[{**table, key: one} for table in tables for one in told]]
            judged = [is_plan(promise, table) for table in tables]
            self.assertEqual(judged, [reference.is_plan(promise.text, table) for table in tables])
            self.assertEqual(any(judged), promise.text in reference.kept(promise.text))

    def test_other_values(self):
        for value in [*all_sorts(), (("a", None),), list(COPY_PLAN.items()), Plan(COPY, COPY_PLAN), COPY_PLAN.keys()]:
            self.assertIs(is_plan(COPY, value), False)


class GoingByTest(unittest.TestCase):
    def test_all_sound_runs(self):
        counts = {"goes": 0, "late": 0, "wrong": 0}
        rng = random.Random(2)
        for promise, table in plans(seed=6, promises=SMALL):
            found = reference.sound_runs(promise.text)
            for run in rng.sample(found, min(len(found), 60)):
                fine, going = reference.goes_by(promise.text, "keeper", table, run)
                goes = fine and going.due() is None
                counts["goes" if goes else "late" if fine else "wrong"] += 1
                self.assertIs(does_go_by(promise, table, run), goes)
                if fine:
                    self.assertEqual(due_call(promise, table, run), going.due())
                    self.assertEqual(taken_up(promise, table, run), (going.at, tuple(going.line)))
                else:
                    for function in (due_call, taken_up):
                        with self.assertRaises(InvalidOperation):
                            function(promise, table, run)
                if goes:
                    # Main statement [0.16].
                    self.assertEqual({winner(promise, run, world) for world in reference.worlds(promise)}, {"keeper"})
        self.assertGreater(min(counts.values()), 300)

    def test_early_and_late_calls(self):
        start = Promise.read("([a + b] | [!a * !b] | [yes + no])")
        table = {start.text: ((2,), 0), "([a + b] | [!a * !b] | yes)": None, "([a + b] | !a | yes)": None,
                 "([a + b] | !b | yes)": None}
        caller, keeper = ("caller", (1,), 1), ("keeper", (2,), 0)
        self.assertEqual(due_call(start, table, ()), ((2,), 0))
        self.assertEqual(taken_up(start, table, ()), (start.text, ()))
        self.assertEqual(taken_up(start, table, (caller,)), (start.text, (((1,), 1),)))
        self.assertEqual(due_call(start, table, (caller,)), ((2,), 0))
        for run in ((caller, keeper), (keeper, caller)):
            self.assertEqual(taken_up(start, table, run), ("([a + b] | !b | yes)", ()))
            self.assertIs(does_go_by(start, table, run), True)
            self.assertIsNone(due_call(start, table, run))
        self.assertEqual([does_go_by(start, table, run) for run in ((), (caller,), (keeper,))], [False, False, True])
        self.assertIs(does_go_by(start, table, (("keeper", (2,), 1),)), False)
        self.assertIs(does_go_by(start, table, (("keeper", (0,), 0), keeper)), False)

    def test_a_line_of_two_calls(self):
        start = Promise.read("([yes + no] | [a * b] | [a * b])")
        table = {start.text: ((0,), 0)}
        for one in ("[a * b]", "a", "b"):
            for other in ("[a * b]", "a", "b"):
                table[f"(yes | {one} | {other})"] = None
        line = (("caller", (2,), 0), ("caller", (1,), 1))
        self.assertEqual(taken_up(start, table, line), (start.text, (((2,), 0), ((1,), 1))))
        self.assertEqual(taken_up(start, table, (*line, ("keeper", (0,), 0))), ("(yes | b | a)", ()))
        self.assertEqual(taken_up(start, table, (line[0], ("keeper", (0,), 0), line[1]))[0], "(yes | b | a)")

    def test_calls_that_are_not_there(self):
        for function in (does_go_by, due_call, taken_up):
            for run in ((("keeper", (1,), 0),), (("caller", (0,), 0),), (("caller", (1,), 0),) * 2, (("caller", (1,), 2),),
                        (("caller", (1,), 0), ("keeper", (0,), 0), ("keeper", (0,), 0)), (("keeper", (), 0),)):
                with self.assertRaises(InvalidOperation):
                    function(COPY, COPY_PLAN, run)

    def test_answered(self):
        rng = random.Random(8)
        kinds = [0, 0]
        for promise, table in plans(seed=9, promises=SMALL):
            wanted = [()]
            for run in rng.sample(reference.sound_runs(promise.text), min(12, len(reference.sound_runs(promise.text)))):
                calls = tuple((place, at) for hand, place, at in run if hand == "caller")
                wanted += [calls, calls[::-1], calls + calls[:1]]
                wanted += [tuple((place, at) for _, place, at in run)]
            for calls in wanted:
                expected = reference.with_calls(promise.text, "keeper", table, calls)
                kinds[expected is None] += 1
                if expected is None:
                    with self.assertRaises(InvalidCall):
                        answered(promise, table, calls)
                else:
                    run = answered(promise, table, calls)
                    self.assertEqual(run, expected)
                    self.assertIs(does_go_by(promise, table, run), True)
                    heard = tuple((place, at) for hand, place, at in run if hand == "caller")
                    self.assertEqual(heard, calls)
        self.assertGreater(min(kinds), 100)

    def test_calls_that_are_there_at_last(self):
        start = Promise.read("([[a * b] + c] | ([yes + no] & (!a | [d * e] | yes)))")
        first, second = f"([a * b] | ([yes + no] & (!a | [d * e] | yes)))", "([a * b] | (yes & (!a | [d * e] | yes)))"
        table = {start.text: ((0,), 0), first: ((1, 0), 0)}
        for one in ("[a * b]", "a", "b"):
            for other in ("[d * e]", "d", "e"):
                table[f"({one} | (yes & (!a | {other} | yes)))"] = None
        self.assertIn(second, table)
        self.assertIs(is_plan(start, table), True)
        one, two = ("keeper", (0,), 0), ("keeper", (1, 0), 0)
        self.assertEqual(answered(start, table, ()), (one, two))
        self.assertEqual(answered(start, table, (((0,), 1),)), (one, ("caller", (0,), 1), two))
        self.assertEqual(answered(start, table, (((1, 1, 1), 0), ((0,), 1))),
                         (("caller", (1, 1, 1), 0), one, ("caller", (0,), 1), two))
        self.assertEqual(answered(start, table, (((0,), 1), ((1, 1, 1), 0))),
                         (one, ("caller", (0,), 1), ("caller", (1, 1, 1), 0), two))
        never = [(((0,), 2),), (((0,), 0), ((0,), 0)), (((1, 0), 0),), (((2,), 0),), (((0,), True),), (((False,), 1),),
                 (((0,), 1), "x"), [((0,), 1)], ((0,), 1), (("caller", (0,), 1),), ([(0,), 1],), (None,), None, 0, "a", {}]
        for calls in never:
            with self.assertRaises(InvalidCall, msg=calls):
                answered(start, table, calls)

    def test_answered_refuses_other_values(self):
        for value in all_sorts():
            if value != ():
                with self.assertRaises(InvalidCall):
                    answered(COPY, COPY_PLAN, value)
                with self.assertRaises(InvalidCall):
                    answered(COPY, COPY_PLAN, (((1,), 0), value))

    def test_errors_in_order(self):
        bad = changed(COPY_PLAN, "a", None)
        for function in (does_go_by, due_call, taken_up, answered):
            for value in no_promises():
                with self.assertRaises(InvalidPromise):
                    function(value, 3, 3)
            for value in [*all_sorts(), bad, Plan(COPY, COPY_PLAN)]:
                with self.assertRaises(InvalidPlan):
                    function(COPY, value, 3)
            if function != answered:
                for value in [*all_sorts(), [("caller", (1,), 0)], (("caller", (1,), True),), ("caller", (1,), 0)]:
                    if value != ():
                        with self.assertRaises(InvalidRun):
                            function(COPY, COPY_PLAN, value)
        for value in no_promises():
            with self.assertRaises(InvalidPromise):
                is_plan(value, {})

    def test_the_order_of_a_dict_has_no_effect(self):
        for promise, table in plans(seed=10, many=1, promises=SMALL):
            other = {key: table[key] for key in sorted(table, reverse=True)}
            before = list(other)
            for run in reference.sound_runs(promise.text)[:20]:
                self.assertIs(does_go_by(promise, table, run), does_go_by(promise, other, run))
            self.assertEqual(answered(promise, table, ()), answered(promise, other, ()))
            self.assertEqual(Plan(promise, table), Plan(promise, other))
            self.assertEqual(list(Plan(promise, other)), sorted(table))
            self.assertEqual(list(other), before)


class PlanTest(unittest.TestCase):
    def test_properties_and_entries(self):
        for promise, table in plans(seed=11):
            plan = Plan(promise, table)
            self.assertEqual([plan.promise, plan.table, plan.start], [promise, table, table[promise.text]])
            self.assertEqual(list(plan.table), sorted(table))
            self.assertEqual([list(plan), len(plan)], [sorted(table), len(table)])
            for key in table:
                self.assertEqual(plan.at(key), table[key])
                self.assertIs(key in plan, True)
            told = [one for one in table.values() if one is not None]
            self.assertEqual(str(plan), f"{len(table)} positions, {len(told)} calls")

    def test_no_keys(self):
        plan = Plan(COPY, COPY_PLAN)
        for value in [*all_sorts(), "(a | [!a * !b])", COPY, COPY.text + " ", (COPY.text,)]:
            self.assertIs(value in plan, False)
            with self.assertRaises(InvalidOperation):
                plan.at(value)

    def test_lean_most_calls_and_runs(self):
        rng = random.Random(12)
        for promise, table in plans(seed=13, promises=SMALL):
            # Other positions beside those that are needed.
            for one in rng.sample(sorted(reference.kept(promise.text)), min(3, len(reference.kept(promise.text)))):
                table = {**reference.random_table_at(promise.text, one, "keeper", rng), **table}
            met, most, at_once = set(), 0, []
            for run in reference.sound_runs(promise.text):
                fine, going = reference.goes_by(promise.text, "keeper", table, run)
                if fine and going.due() is None:
                    met |= set(going.met)
                    most = max(most, len([move for move in run if move[0] == "keeper"]))
                    at_once += [run] if self.is_at_once(promise, table, run) else []
            plan = Plan(promise, table)
            self.assertEqual(plan.lean(), Plan(promise, {key: table[key] for key in met}))
            self.assertEqual(plan.lean().promise, promise)
            self.assertEqual(plan.lean().lean(), plan.lean())
            self.assertEqual(plan.most_calls(), most)
            self.assertEqual(list(plan.runs()), at_once)

    def is_at_once(self, promise, table, run):
        """Whether the caller calls only where nothing is due."""
        going = reference.Going(promise.text, "keeper", table)
        for move in run:
            if move[0] == "caller" and going.due() is not None:
                return False
            going.takes(move)
        return True

    def test_given_plans(self):
        plan = Plan(COPY, COPY_PLAN)
        self.assertEqual(list(plan.runs()), [
            (), (("caller", (1,), 0), ("keeper", (0,), 0)), (("caller", (1,), 1), ("keeper", (0,), 1)),
        ])
        made_runs = plan.runs()
        self.assertIs(iter(made_runs), made_runs)
        self.assertEqual([plan.most_calls(), plan.lean() == plan, plan.start], [1, True, None])
        sure = Plan(Promise.sure(), {"yes": None})
        self.assertEqual([list(sure.runs()), sure.most_calls(), str(sure)], [[()], 0, "1 positions, 0 calls"])
        half = Plan(HALF, {HALF.text: ((0,), 0), "(a | !a)": None})
        self.assertEqual([list(half.runs()), half.start, half.most_calls()], [[(("keeper", (0,), 0),)], ((0,), 0), 1])

    def test_runs_come_one_by_one(self):
        calls = [f"[{one} * {one}]" for one in "abcdef"]
        promise = Promise.read(f"(yes | ({' & '.join(calls[:3])} & {calls[3]}) | ({' & '.join(calls[:3])}))")
        table = {text: None for text in reference.game(promise.text)}
        made_runs = Plan(promise, table).runs()
        self.assertEqual(next(made_runs), ())
        self.assertEqual([len(next(made_runs)) for _ in range(7)], [1, 2, 3, 4, 5, 6, 7])

    def test_no_state_is_shared(self):
        table = dict(COPY_PLAN)
        plan = Plan(COPY, table)
        table.clear()
        plan.table.clear()
        plan.table[COPY.text] = 7
        self.assertEqual([plan.table, len(plan)], [COPY_PLAN, 5])
        self.assertEqual(plan.lean().table, COPY_PLAN)

    def test_equality(self):
        two = Promise.read("([a + b] | !a | [yes + no])")
        table = {two.text: ((2,), 0), "([a + b] | !a | yes)": None}
        other = {two.text: ((0,), 0), "(a | !a | [yes + no])": None}
        both = {**table, **other, two.text: ((0,), 0)}
        found = [Plan(two, one) for one in (table, other, both)]
        for one in range(3):
            for at in range(3):
                self.assertIs(found[one] == found[at], one == at)
                self.assertIs(found[one] != found[at], one != at)
        self.assertEqual(found[2].lean(), found[1])
        self.assertNotEqual(Plan(Promise.sure(), {"yes": None}), Plan(Promise.read("(a | !a)"), {"(a | !a)": None}))
        for value in [*all_sorts(), table, two]:
            self.assertIs(found[0] == value, False)
            self.assertIs(found[0] != value, True)
        self.assertEqual(equal_ones(Plan(COPY, COPY_PLAN)), ["Plan"])

    def test_refuses(self):
        for value in no_promises():
            with self.assertRaises(InvalidPromise):
                Plan(value, 3)
        for value in [*all_sorts(), without(COPY_PLAN, COPY.text), Plan(COPY, COPY_PLAN), changed(COPY_PLAN, "a", None)]:
            with self.assertRaises(InvalidPlan):
                Plan(COPY, value)
        with self.assertRaises(InvalidPlan):
            Plan(TWICE, {TWICE.text: None})

    def test_properties_cannot_be_set(self):
        for name in ("promise", "table", "start"):
            with self.assertRaises(AttributeError):
                setattr(Plan(COPY, COPY_PLAN), name, {})


if __name__ == "__main__":
    unittest.main()
