"""[15.1]: texts of promises, calls, worlds, runs, plans and counters, and their values."""

import random
import unittest

from eitherhand.base.places import calls
from eitherhand.base.promises import Promise
from eitherhand.errors import InvalidOperation, InvalidWord, ParseError
from eitherhand.keep.counters import counter_for
from eitherhand.keep.kept import is_kept, plan_for
from eitherhand.play.runs import sound_runs
from eitherhand.text.texts import is_written, read, write
from samples import A, COPY, COPY_PLAN, PICK, PICK_COUNTER, TEXTS, TWICE, all_sorts, varied
import reference

FORMS = ("call", "counter", "plan", "promise", "run", "world")
LONG = tuple(("keeper" if at % 2 else "caller", (at % 4,) * (at % 9), at % 4) for at in range(12))
GIVEN = [
    ("promise", A, "a"), ("promise", COPY, "([a + b] | [!a * !b])"), ("promise", Promise.never(), "no"),
    ("call", ((), 2), "2"), ("call", ((1,), 0), "1.0"), ("call", ((1, 0), 2), "1.0.2"),
    ("call", ((0, 1, 2, 3, 0, 1, 2, 3), 3), "0.1.2.3.0.1.2.3.3"), ("call", ((), 0), "0"),
    ("world", (), "-"), ("world", ("a",), "a"), ("world", ("a", "ab", "b"), "a ab b"), ("world", tuple("abcdefgh"), "a b c d e f g h"),
    ("world", ("error", "wait"), "error wait"), ("run", (), "-"), ("run", (("caller", (), 2),), "c2"),
    ("run", (("keeper", (1,), 0),), "k1.0"),
    ("run", (("caller", (1,), 0), ("keeper", (0,), 1), ("caller", (1,), 0)), "c1.0 k0.1 c1.0"),
    ("plan", {"a": None}, "a: wait"), ("plan", {"[a + b]": ((), 1)}, "[a + b]: 1"),
    ("plan", {"[a + b]": ((), 1), "(a | !a)": None}, "(a | !a): wait; [a + b]: 1"),
    ("plan", {"no": ((3, 3), 3), "!a": None, "a": ((0,), 0)}, "!a: wait; a: 0.0; no: 3.3.3"),
    ("counter", {"a": ("rest", ())}, "a: rest -"), ("counter", {"[a * b]": ("call", (), 0)}, "[a * b]: call 0"),
    ("counter", {"b": ("rest", ("a", "b")), "(a & b)": ("call", (1, 2), 3)}, "(a & b): call 1.2.3; b: rest a b"),
    ("run", LONG, "c0 k1.1 c2.2.2 k3.3.3.3 c0.0.0.0.0 k1.1.1.1.1.1 c2.2.2.2.2.2.2 k3.3.3.3.3.3.3.3 c0.0.0.0.0.0.0.0.0 k1"
                  " c2.2 k3.3.3"),
]
# Of each form texts that are none, with the index of the first item that is amiss.
WRONG = [
    ("promise", "", 0), ("promise", "a ", 0), ("promise", " a", 0), ("promise", "a & b", 0), ("promise", "(b  & a)", 0),
    ("promise", "-", 0), ("promise", "(a & b) a", 0), ("promise", "a; b", 0), ("promise", "a\n", 0), ("promise", "x" * 9, 0),
    ("call", "", 0), ("call", "-", 0), ("call", "4", 0), ("call", "1.4", 0), ("call", "1.", 0), ("call", ".1", 0), ("call", "1..0", 0),
    ("call", "01", 0), ("call", "1.00", 0), ("call", "1,0", 0), ("call", "1 0", 0), ("call", " 1", 0), ("call", "1 ", 0),
    ("call", "+1", 0), ("call", "-1", 0), ("call", "1.0.2.3.0.1.2.3.0.1", 0), ("call", "k1", 0), ("call", "1\n", 0), ("call", "(1, 0)", 0),
    ("world", "", 0), ("world", "a  b", 1), ("world", "a b ", 2), ("world", " a", 0), ("world", "b a", 1), ("world", "a a", 1),
    ("world", "a b b", 2), ("world", "a c b", 2), ("world", "a,b", 0), ("world", "a yes", 1), ("world", "a B", 1), ("world", "- a", 0),
    ("world", "a -", 1), ("world", "a\nb", 0), ("world", "--", 0), ("world", "-\n", 0), ("world", "a; b", 0), ("world", "a b c 1 d", 3),
    ("world", "a nineletters", 1), ("world", "a c b a", 2), ("world", "b a 1", 1),
    ("run", "", 0), ("run", "k1.0  c2", 1), ("run", "k1.0 c2 ", 2), ("run", " k1", 0), ("run", "k", 0), ("run", "k1.0 c", 1), ("run", "1.0", 0),
    ("run", "k1.0,c2", 0), ("run", "k4", 0), ("run", "k1 c2 x3 c1", 2), ("run", "K1", 0), ("run", "k-", 0), ("run", "- k1", 0),
    ("run", "k1 -", 1), ("run", "kk1", 0), ("run", "k1.", 0), ("run", " ".join(["k1"] * 13), 12), ("run", " ".join(["k1"] * 20), 12),
    ("run", " ".join(["k1"] * 12) + " oops", 12), ("run", " ".join(["k1"] * 12) + " ", 12), ("run", " ".join(["k1"] * 5 + [""] * 20), 5),
    ("run", "k0.0.0.0.0.0.0.0.0.0", 0),
    ("plan", "", 0), ("plan", "-", 0), ("plan", "a", 0), ("plan", "a:", 0), ("plan", "a: ", 0), ("plan", "a:wait", 0), ("plan", "a : wait", 0),
    ("plan", "a:  wait", 0), ("plan", "a: wait;", 0), ("plan", "a: wait; ", 1), ("plan", "a: wait;b: wait", 0), ("plan", "a: wait;  b: wait", 1),
    ("plan", "a: wait, b: wait", 0), ("plan", "b: wait; a: wait", 1), ("plan", "a: wait; a: wait", 1), ("plan", "a: wait; a: 1", 1),
    ("plan", "a: wait; oops; b: wait", 1), ("plan", "a: 4", 0), ("plan", "a: wait; [a + b]: 1", 1), ("plan", "a: rest -", 0),
    ("plan", "a: call 1", 0), ("plan", "A: wait", 0), ("plan", "a: Wait", 0), ("plan", "a: 1.0; b: 1.", 1), ("plan", " a: wait", 0),
    ("plan", "a: wait\n", 0), ("plan", "a: 1 ", 0), ("plan", "a: wait; b: wait; ", 2), ("plan", "a: wait: wait", 0), ("plan", "(a&b): wait", 0),
    ("counter", "", 0), ("counter", "a: rest", 0), ("counter", "a: rest ", 0), ("counter", "a: -", 0), ("counter", "a: rest b a", 0),
    ("counter", "a: rest a  b", 0), ("counter", "a: call", 0), ("counter", "a: call 4", 0), ("counter", "a: call -", 0), ("counter", "a: wait", 0),
    ("counter", "a: 1", 0), ("counter", "a: rest -; a: rest -", 1), ("counter", "b: rest -; a: rest -", 1), ("counter", "a: rest -; b: rest A", 1),
    ("counter", "a: rest - ", 0), ("counter", "a: rest  -", 0), ("counter", "a: call  1", 0), ("counter", "a: Rest -", 0),
    ("counter", "a: rest a a", 0), ("counter", "a: rest -;b: rest -", 0), ("counter", "a: rest -; ", 1), ("counter", "a: rest -; b: call 1.0 ", 1),
    ("counter", "a: rest - a", 0), ("counter", "a: restful", 0),
]


def refused(form, text):
    """What the error of a text keeps."""
    try:
        read(form, text)
    except ParseError as error:
        return error.line
    raise AssertionError((form, text))


class FormsTest(unittest.TestCase):
    def both_ways(self, form, value, text=None):
        """Write a value, and read it."""
        found = write(form, value)
        self.assertIs(type(found), str)
        if text is not None:
            self.assertEqual(found, text)
        again = read(form, found)
        self.assertIs(type(again), type(value))
        self.assertEqual(again, value)
        self.assertIs(is_written(form, found), True)
        if isinstance(value, dict):
            self.assertEqual(list(again), sorted(value))
            self.assertEqual(repr(again), repr({key: value[key] for key in sorted(value)}))

    def test_given_values_and_texts(self):
        for form, value, text in GIVEN:
            self.both_ways(form, value, text)

    def test_promises(self):
        for promise in [*[Promise.read(text) for text in TEXTS], TWICE, *varied(91, 60, facts="abc")]:
            self.both_ways("promise", promise, promise.text)

    def test_calls_and_runs(self):
        for promise in varied(92, 30, most=4):
            for hand in ("keeper", "caller"):
                for call in calls(promise, hand):
                    self.both_ways("call", call, ".".join([str(at) for at in (*call[0], call[1])]))
            for run in list(sound_runs(promise, 4))[::5]:
                moves = [f"{hand[0]}{write('call', (place, index))}" for hand, place, index in run]
                self.both_ways("run", run, " ".join(moves) or "-")

    def test_worlds(self):
        for world in reference.sets_of(("a", "ab", "b", "rain", "abcdefgh")):
            self.both_ways("world", world, " ".join(world) or "-")

    def test_plans_and_counters(self):
        rng = random.Random(93)
        for promise in varied(94, 80, most=4):
            form = "plan" if is_kept(promise) else "counter"
            table = plan_for(promise) if form == "plan" else counter_for(promise)
            self.both_ways(form, table)
            keys = list(table)
            rng.shuffle(keys)
            self.assertEqual(write(form, {key: table[key] for key in keys}), write(form, table))
        self.both_ways("plan", COPY_PLAN)
        self.both_ways("counter", PICK_COUNTER)

    def test_texts_that_are_none(self):
        for form, text, at in WRONG:
            self.assertEqual(refused(form, text), at, (form, text))
            self.assertIs(is_written(form, text), False)

    def test_texts_near_right_ones(self):
        rng = random.Random(95)
        for form, value, text in GIVEN:
            for _ in range(60):
                at = rng.randrange(len(text) + 1)
                near = rng.choice((text[:at] + rng.choice(" ;:.-abk014\n") + text[at:], text[:at] + text[at + 1:]))
                if is_written(form, near):
                    self.assertEqual(write(form, read(form, near)), near)
                else:
                    self.assertIs(type(refused(form, near)), int)

    def test_values_that_are_no_strings(self):
        for form in FORMS:
            for value in all_sorts():
                if not isinstance(value, str):
                    self.assertIsNone(refused(form, value))

    def test_forms_that_are_none(self):
        for form in [*all_sorts(), "Plan", "calls", " plan"]:
            for call in (lambda: write(form, A), lambda: read(form, "a"), lambda: is_written(form, "a"),
                         lambda: read(form, None), lambda: write(form, None)):
                with self.assertRaises(InvalidWord):
                    call()

    def test_values_that_have_not_the_form(self):
        wrong = {
            "promise": ["a", A.nodes, (A,), None],
            "call": [((1,), True), ((True,), 0), ([1], 0), [(1,), 0], ((1,), 4), ((4,), 0), ((1,), -1), ((0,) * 9, 0), ((1,),), (1, 0),
                     ((1,), 0, 0), ("keeper", (1,), 0), ((1,), None), ((1,), 10 ** 60), ((), "0"), "1.0"],
            "world": [["a"], ("b", "a"), ("a", "a"), ("yes",), ("A",), "a", (1,), (("a",),), ("a", "B"), {"a": True}, None],
            "run": [[], (("keeper", (1,), True),), (("Keeper", (1,), 0),), [("keeper", (1,), 0)], (((1,), 0),), LONG + LONG[:1], "-",
                    (("keeper", [1], 0),), (["keeper", (1,), 0],), None],
            "plan": [{}, {"a": "wait"}, {"a": ((1,), True)}, {"a & b": None}, {1: None}, [("a", None)], (("a", None),),
                     {"a": ("rest", ())}, {"a": None, "b": 1}, {"a": [(), 0]}, {"": None}, {"a": ((), 4)}, {("a",): None}, None],
            "counter": [{}, {"a": None}, {"a": ("rest", ["a"])}, {"a": ("rest", ("b", "a"))}, {"a": ["rest", ()]}, {"a": ("rest",)},
                        {"a": ("call", (), True)}, {"a": ("call", ((), 0))}, {"a": ((), 0)}, {"a": ("rest", (), ())}, {"a b": ("rest", ())},
                        {"a": ("wait", ())}, {"a": ("wait", (), 0)}, {"a": ("call", ())}, {"a": ("rest", ()), "b": None}, {"a": ()}, {"a": (1, 2, 3)}, None],
        }
        for form, values in wrong.items():
            for value in values:
                with self.assertRaises(InvalidOperation):
                    write(form, value)
            for value in all_sorts():
                fine = (form == "promise" and isinstance(value, Promise)) or (form == "run" and value == ()) \
                    or (form == "world" and value in ((), ("a",)))
                if not fine:
                    with self.assertRaises(InvalidOperation):
                        write(form, value)

    def test_is_written(self):
        plain = {"a", "rain", "all", "some", "mine", "yours", "fact", "not", "keeper", "caller"}
        fine = {"promise": plain | {"yes", "no", "(a & b)"}, "world": plain}
        for form in FORMS:
            for value in all_sorts():
                self.assertIs(is_written(form, value), isinstance(value, str) and value in fine.get(form, ()))

    def test_texts_that_look_like_words_of_the_forms(self):
        for fact in ("wait", "rest", "call", "k", "c"):
            self.both_ways("plan", {fact: None}, f"{fact}: wait")
            self.both_ways("counter", {fact: ("rest", (fact,))}, f"{fact}: rest {fact}")

    def test_no_state_is_shared(self):
        table = dict(PICK_COUNTER)
        text = write("counter", table)
        found = read("counter", text)
        found.clear()
        self.assertEqual([read("counter", text), table], [PICK_COUNTER, PICK_COUNTER])
        self.assertEqual(write("promise", PICK), PICK.text)

    def test_long_texts(self):
        table = plan_for(Promise.read(
            "(([!a * !b] & [!c * !d] & [!e + !f] & [!a + !c]) | ([a + b] | [c + d] | [e * f] | [a * c]) | [e + f])"))
        self.both_ways("plan", table)
        self.assertEqual(refused("world", " ".join(["a"] * 4000)), 1)
        self.assertEqual(refused("promise", "(" * 9000), 0)


if __name__ == "__main__":
    unittest.main()
