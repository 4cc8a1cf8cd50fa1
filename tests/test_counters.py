"""[0.14] to [0.16], [8.1]: counters, habits, runs that go by them, and the class `Counter`."""

import random
import unittest

from eitherhand.base.promises import Promise
from eitherhand.errors import InvalidCall, InvalidOperation, InvalidPlan, InvalidPromise, InvalidRun
from eitherhand.keep.counters import (
    Counter, caller_wins, counter_for, does_counter, due_counter, is_counter, is_habit, last_world, meeting,
)
from eitherhand.keep.plans import is_plan
from eitherhand.play.runs import first_wrong, winner
from samples import A, COPY, COPY_PLAN, PICK, PICK_COUNTER, TEXTS, TWICE, all_sorts, equal_ones, no_promises, varied
import reference

SOME = [PICK, TWICE, *[Promise.read(text) for text in TEXTS], *varied(41, 140), *varied(42, 60, facts="abc")]
LOST = [one for one in SOME if one.text not in reference.kept(one.text)]
SMALL = [one for one in LOST if len(reference.game(one.text)) <= 90]


def counters(seed=1, many=2, promises=LOST):
    """Pairs of a promise and a counter that is chosen at random."""
    rng = random.Random(seed)
    return [(one, reference.random_table(one.text, "caller", rng)) for one in promises for _ in range(many)]


def habits(promise, rng):
    """A habit that is chosen at random."""
    found = {}
    for key in reference.game(promise.text):
        calls = [call for call, _ in reference.ways(promise.text, key, "keeper")]
        if rng.random() < 0.7:
            found[key] = rng.choice([None, *calls, *calls])
    return found


class IsCounterTest(unittest.TestCase):
    def test_there_are_enough(self):
        self.assertGreater(len(SMALL), 60)

    def test_counters(self):
        for promise, table in counters(many=4):
            self.assertTrue(reference.is_counter(promise.text, table))
            self.assertIs(is_counter(promise, table), True)
            self.assertIs(is_counter(promise, {key: table[key] for key in sorted(table, reverse=True)}), True)
            self.assertIs(is_plan(promise, table), False)

    def test_any_counter(self):
        for promise in SOME:
            if promise.text in reference.kept(promise.text):
                with self.assertRaises(InvalidOperation):
                    counter_for(promise)
            else:
                table = counter_for(promise)
                self.assertEqual(list(table), sorted(table))
                self.assertTrue(reference.is_counter(promise.text, table))
                self.assertIs(is_counter(promise, table), True)

    def test_a_key_too_few_and_other_entries(self):
        rng = random.Random(3)
        judged = [0, 0]
        for promise, table in counters(seed=4):
            for key in sorted(table)[:8]:
                less = {one: told for one, told in table.items() if one != key}
                self.assertIs(is_counter(promise, less), reference.is_counter(promise.text, less))
            keys = rng.sample(sorted(reference.game(promise.text)), min(8, len(reference.game(promise.text))))
            for key in [promise.text, *keys]:
                tellings = [("rest", world) for world in reference.worlds(promise)]
                for hand in ("keeper", "caller"):
                    tellings += [("call", *call) for call, _ in reference.ways(promise.text, key, hand)]
                for told in [*tellings, ("call", (2,), 0)]:
                    expected = reference.is_counter(promise.text, {**table, key: told})
                    judged[expected] += 1
                    self.assertIs(is_counter(promise, {**table, key: told}), expected)
        self.assertGreater(min(judged), 300)

    def test_counters_made_by_hand(self):
        later = Promise.read("[[a + !a] * [b + !b]]")
        by_hand = {later.text: ("call", (), 1), "[b + !b]": ("rest", ("a",)), "b": ("rest", ("a",)), "!b": ("rest", ("a", "b"))}
        self.assertIs(is_counter(later, by_hand), True)
        self.assertIs(is_counter(later, {**by_hand, "a": ("rest", ())}), True)
        self.assertIs(is_counter(later, {**by_hand, "a": ("rest", ("a",))}), False)
        # A rest at a position that holds in the world, or behind which a call of the keeper's leads to no key.
        self.assertIs(is_counter(later, {**by_hand, "b": ("rest", ("b",))}), False)
        self.assertIs(is_counter(later, {key: by_hand[key] for key in sorted(by_hand) if key != "b"}), False)
        self.assertIs(is_counter(later, {**by_hand, later.text: ("rest", ())}), False)
        # A call that is not there, is the keeper's, or leads to no key.
        self.assertIs(is_counter(later, {**by_hand, later.text: ("call", (), 2)}), False)
        self.assertIs(is_counter(later, {**by_hand, "[b + !b]": ("call", (), 0)}), False)
        self.assertIs(is_counter(later, {**by_hand, later.text: ("call", (), 0)}), False)
        self.assertIs(is_counter(TWICE, {TWICE.text: ("call", (1, 0), 0)}), False)

    def test_entries_of_other_forms(self):
        told = [
            ("rest",), ("rest", (), 0), ("rest", ("b",)), ("rest", ["a"]), ("rest", "a"), ("rest", ("a", "a")), ("rest", None),
            ("rest", ("a", 1)), ("Rest", ()), ["rest", ()], ("call", (), 0), ("call", ()), (), None, ((), 0), "rest", 0,
            ("call", ((), 0)), {"rest": ()}, ("rest", (("a",),)), ("rest", [[]]), (("rest", ()),), (1, ()), (None, ()),
        ]
        for one in [*told, *all_sorts()]:
            for key in PICK_COUNTER:
                self.assertIs(is_counter(PICK, {**PICK_COUNTER, key: one}), False, one)
            self.assertIs(is_counter(PICK, {**PICK_COUNTER, "a": ("rest", one)}), isinstance(one, tuple) and one == ())
        both = Promise.read("[(a & b) * (a | !a)]")
        base = {both.text: ("call", (), 0), "(a & b)": ("rest", ("a",))}
        self.assertIs(is_counter(both, base), True)
        for one in [("call", (), False), ("call", [], 0), ("call", (), 0, 0), ("call", ()), ("call", 0, 0), ("call", (), -2),
                    ("Call", (), 0), ["call", (), 0], ("call", (False,), 0), ("rest", (), 0), ("caller", (), 0), ((), 0)]:
            self.assertIs(is_counter(both, {**base, both.text: one}), False, one)
        # A world of the whole promise, not only of the position; in ascending order.
        self.assertIs(is_counter(both, {**base, "(a & b)": ("rest", ("b",))}), True)
        self.assertIs(is_counter(both, {**base, "(a & b)": ("rest", ("a", "b"))}), False)
        self.assertIs(is_counter(both, {**base, "(a & b)": ("rest", ("b", "a"))}), False)

    def test_other_keys_and_values(self):
        for key in ("", "b", "a ", "[!a + a]", (), None, True, 0, ("a",)):
            self.assertIs(is_counter(PICK, {**PICK_COUNTER, key: ("rest", ())}), False)
        for value in [*all_sorts(), list(PICK_COUNTER.items()), Counter(PICK, PICK_COUNTER), COPY_PLAN, {}]:
            self.assertIs(is_counter(PICK, value), False)
            self.assertIs(is_counter(COPY, value), False)


class HabitTest(unittest.TestCase):
    def test_habits(self):
        rng = random.Random(5)
        for promise in SOME:
            for _ in range(3):
                habit = habits(promise, rng)
                self.assertIs(is_habit(promise, habit), True)
                for key in list(habit)[:5]:
                    calls = [call for call, _ in reference.ways(promise.text, key, "keeper")]
                    for told in [((), 0), ((0,), 1), ((1,), 0), *[call for call, _ in reference.ways(promise.text, key, "caller")]]:
                        self.assertIs(is_habit(promise, {**habit, key: told}), told in calls)
            self.assertIs(is_habit(promise, {}), True)
        self.assertIs(is_habit(COPY, COPY_PLAN), True)

    def test_no_habits(self):
        for told in [((), True), ((), False), ([], 0), [(), 0], ((), 2), ((), -1), (((), 0),), ("call", (), 0), ("rest", ()), 0, False,
                     "wait", ((0,), 0)]:
            self.assertIs(is_habit(PICK, {PICK.text: told}), False, told)
        for value in all_sorts():
            self.assertIs(is_habit(PICK, value), isinstance(value, dict) and value == {})
            self.assertIs(is_habit(PICK, {PICK.text: value}), value is None)
            if isinstance(value, (str, int, type(None))) and value != "a":
                self.assertIs(is_habit(PICK, {value: None}), False)
        self.assertIs(is_habit(PICK, {"b": None}), False)
        self.assertIs(is_habit(PICK, {"a": None, "!a": None}), True)


class GoingByTest(unittest.TestCase):
    def test_all_sound_runs(self):
        counts = {"goes": 0, "late": 0, "wrong": 0}
        rng = random.Random(6)
        for promise, table in counters(seed=7, promises=SMALL):
            found = reference.sound_runs(promise.text)
            for run in rng.sample(found, min(len(found), 40)):
                fine, going = reference.goes_by(promise.text, "caller", table, run)
                goes = fine and going.due() is None
                counts["goes" if goes else "late" if fine else "wrong"] += 1
                self.assertIs(does_counter(promise, table, run), goes)
                if fine:
                    self.assertEqual(due_counter(promise, table, run), going.due())
                else:
                    with self.assertRaises(InvalidOperation):
                        due_counter(promise, table, run)
                if goes:
                    # Main statement [0.16].
                    world = last_world(promise, table, run)
                    self.assertEqual(world, table[going.at][1])
                    self.assertEqual(winner(promise, run, world), "caller")
                else:
                    with self.assertRaises(InvalidOperation):
                        last_world(promise, table, run)
        self.assertGreater(min(counts.values()), 100)

    def test_early_and_late_calls(self):
        start = Promise.read("([a + !a] & [(b | !b) * b])")
        first = "([a + !a] & b)"
        table = {start.text: ("call", (1,), 1), first: ("rest", ()), "(a & b)": ("rest", ()), "(!a & b)": ("rest", ("a",))}
        self.assertIs(is_counter(start, table), True)
        caller, keeper = ("caller", (1,), 1), ("keeper", (0,), 1)
        self.assertEqual(due_counter(start, table, ()), ((1,), 1))
        self.assertEqual(due_counter(start, table, (keeper,)), ((1,), 1))
        self.assertIsNone(due_counter(start, table, (keeper, caller)))
        for run in ((keeper, caller), (caller, keeper)):
            self.assertIs(does_counter(start, table, run), True)
            self.assertEqual(last_world(start, table, run), ("a",))
        self.assertEqual([does_counter(start, table, run) for run in ((), (keeper,), (caller,))], [False, False, True])
        self.assertIs(does_counter(start, table, (("caller", (1,), 0),)), False)

    def test_calls_that_are_not_there(self):
        for function in (does_counter, due_counter, last_world):
            for run in ((("keeper", (0,), 0),), (("caller", (), 0),), (("keeper", (), 0),) * 2, (("keeper", (), 2),)):
                with self.assertRaises(InvalidOperation):
                    function(PICK, PICK_COUNTER, run)

    def test_meetings(self):
        rng = random.Random(8)
        for promise, table in counters(seed=9, promises=SMALL):
            for habit in (habits(promise, rng), habits(promise, rng), {}):
                run, world = meeting(promise, habit, table)
                self.assertIs(is_habit(promise, habit), True)
                self.assertIsNone(first_wrong(promise, run))
                self.assertEqual(winner(promise, run, world), "caller")
                keeper = reference.Going(promise.text, "keeper", habit)
                caller = reference.Going(promise.text, "caller", table)
                for move in run:
                    self.assertEqual(move[0], "caller" if keeper.due() is None else "keeper")
                    self.assertTrue(keeper.takes(move) and caller.takes(move))
                self.assertEqual([keeper.due(), caller.due(), table[caller.at][1]], [None, None, world])

    def test_the_keeper_first(self):
        start = Promise.read("([a + !a] & [(b | !b) * b])")
        table = {start.text: ("call", (1,), 1), "([a + !a] & b)": ("rest", ()), "(a & b)": ("rest", ("a",)),
                 "(!a & b)": ("rest", ("a",))}
        caller, keeper = ("caller", (1,), 1), ("keeper", (0,), 1)
        self.assertEqual(meeting(start, {start.text: ((0,), 1)}, table), ((keeper, caller), ("a",)))
        self.assertEqual(meeting(start, {"([a + !a] & b)": ((0,), 1)}, table), ((caller, keeper), ("a",)))
        self.assertEqual(meeting(start, {"([a + !a] & (b | !b))": ((0,), 1)}, table), ((caller,), ()))
        self.assertEqual(meeting(start, {start.text: None}, table), ((caller,), ()))

    def test_caller_wins(self):
        rng = random.Random(10)
        kinds = [0, 0]
        for promise, table in counters(seed=11, promises=SMALL):
            found = reference.sound_runs(promise.text)
            wanted = [()]
            for run in rng.sample(found, min(8, len(found))):
                calls = tuple((place, at) for hand, place, at in run if hand == "keeper")
                wanted += [calls, calls[::-1], calls + calls[:1], tuple((place, at) for _, place, at in run)]
            for calls in wanted:
                expected = reference.with_calls(promise.text, "caller", table, calls)
                kinds[expected is None] += 1
                if expected is None:
                    with self.assertRaises(InvalidCall):
                        caller_wins(promise, table, calls)
                else:
                    self.assertEqual(caller_wins(promise, table, calls), expected)
                    self.assertIs(does_counter(promise, table, expected), True)
        self.assertGreater(min(kinds), 100)

    def test_caller_wins_refuses(self):
        for value in [*all_sorts(), [((), 0)], (((), 2),), (((), True),), (((), 0), ((), 0)), (("keeper", (), 0),), ((), 0), ([(), 0],)]:
            if value != ():
                with self.assertRaises(InvalidCall):
                    caller_wins(PICK, PICK_COUNTER, value)
                with self.assertRaises(InvalidCall):
                    caller_wins(PICK, PICK_COUNTER, (((), 0), value))
        with self.assertRaises(InvalidCall):
            caller_wins(PICK, PICK_COUNTER, (((0,), 0),))

    def test_errors_in_order(self):
        bad = {**PICK_COUNTER, "a": ("rest", ("a",))}
        functions = {
            does_counter: InvalidRun, due_counter: InvalidRun, last_world: InvalidRun, caller_wins: InvalidCall,
        }
        for function, error in functions.items():
            for value in no_promises():
                with self.assertRaises(InvalidPromise):
                    function(value, 3, 3)
            for value in [*all_sorts(), bad, COPY_PLAN, Counter(PICK, PICK_COUNTER)]:
                with self.assertRaises(InvalidPlan):
                    function(PICK, value, 3)
            for value in [*all_sorts(), [("keeper", (), 0)], (("keeper", (), False),)]:
                if value != ():
                    with self.assertRaises(error):
                        function(PICK, PICK_COUNTER, value)
        for value in no_promises():
            for call in (lambda: meeting(value, 3, 3), lambda: is_counter(value, 3), lambda: is_habit(value, 3),
                         lambda: counter_for(value)):
                with self.assertRaises(InvalidPromise):
                    call()
        for value in [*all_sorts(), {PICK.text: ((), 2)}, {PICK.text: ((), True)}, PICK_COUNTER]:
            if value != {}:
                with self.assertRaises(InvalidPlan):
                    meeting(PICK, value, PICK_COUNTER)
            with self.assertRaises(InvalidPlan):
                meeting(PICK, {}, value if value != PICK_COUNTER else bad)


class CounterTest(unittest.TestCase):
    def test_properties_and_entries(self):
        for promise, table in counters(seed=12):
            counter = Counter(promise, table)
            self.assertEqual([counter.promise, counter.table], [promise, table])
            self.assertEqual(list(counter.table), sorted(table))
            self.assertEqual([list(counter), len(counter)], [sorted(table), len(table)])
            rests = sorted({told[1] for told in table.values() if told[0] == "rest"})
            self.assertEqual(counter.rests, tuple(rests))
            for key in table:
                self.assertEqual(counter.at(key), table[key])
                self.assertIs(key in counter, True)
            told = [one for one in table.values() if one[0] == "call"]
            self.assertEqual(str(counter), f"{len(table)} positions, {len(told)} calls")

    def test_no_keys(self):
        counter = Counter(PICK, PICK_COUNTER)
        for value in [*all_sorts(), "b", PICK, PICK.text + " ", (PICK.text,)]:
            if not isinstance(value, str) or value != "a":
                self.assertIs(value in counter, False)
                with self.assertRaises(InvalidOperation):
                    counter.at(value)

    def test_lean(self):
        rng = random.Random(13)
        for promise, table in counters(seed=14, promises=SMALL):
            lost = sorted(set(reference.game(promise.text)) - reference.kept(promise.text))
            for one in rng.sample(lost, min(3, len(lost))):
                table = {**reference.random_table_at(promise.text, one, "caller", rng), **table}
            met = set()
            for run in reference.sound_runs(promise.text):
                fine, going = reference.goes_by(promise.text, "caller", table, run)
                if fine and going.due() is None:
                    met |= set(going.met)
            counter = Counter(promise, table)
            self.assertEqual(counter.lean(), Counter(promise, {key: table[key] for key in met}))
            self.assertEqual(counter.lean().lean(), counter.lean())

    def test_no_state_is_shared(self):
        table = dict(PICK_COUNTER)
        counter = Counter(PICK, table)
        table.clear()
        counter.table.clear()
        self.assertEqual([counter.table, len(counter), counter.lean().table], [PICK_COUNTER, 3, PICK_COUNTER])

    def test_equality(self):
        one = Counter(PICK, PICK_COUNTER)
        self.assertEqual(one, Counter(PICK, {key: PICK_COUNTER[key] for key in sorted(PICK_COUNTER)}))
        other = Counter(PICK, {**PICK_COUNTER, PICK.text: ("rest", ("a",))})
        self.assertIs(one == other, False)
        self.assertIs(one != other, True)
        self.assertNotEqual(Counter(A, {"a": ("rest", ())}), Counter(Promise.fact("b"), {"b": ("rest", ())}))
        for value in [*all_sorts(), PICK_COUNTER, PICK]:
            self.assertIs(other == value, False)
            self.assertIs(other != value, True)
        self.assertEqual(equal_ones(one), ["Counter"])

    def test_refuses(self):
        for value in no_promises():
            with self.assertRaises(InvalidPromise):
                Counter(value, 3)
        for value in [*all_sorts(), COPY_PLAN, {**PICK_COUNTER, "a": None}, Counter(PICK, PICK_COUNTER)]:
            with self.assertRaises(InvalidPlan):
                Counter(PICK, value)

    def test_properties_cannot_be_set(self):
        for name in ("promise", "table", "rests"):
            with self.assertRaises(AttributeError):
                setattr(Counter(PICK, PICK_COUNTER), name, {})


if __name__ == "__main__":
    unittest.main()
