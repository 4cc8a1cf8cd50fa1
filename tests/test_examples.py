"""The examples of the document, as they stand there."""

import unittest

from eitherhand.base.places import (
    Surface, called, calls, hand_of, is_position, part_at, positions, replaced, surface,
)
from eitherhand.base.promises import Promise
from eitherhand.errors import ParseError
from eitherhand.keep.counters import Counter, caller_wins, due_counter, is_counter, last_world, meeting
from eitherhand.keep.fewest import is_least_table, is_most_table, need, needs, sparing_calls
from eitherhand.keep.kept import Keeper, good_calls, hurting_calls, is_kept, kept_paper, may_wait
from eitherhand.keep.plans import Plan, answered, due_call, is_plan
from eitherhand.plain.worlds import (
    Plain, are_equal_plain, does_depend, false_worlds, is_stable, plain_form, with_truth, worlds,
)
from eitherhand.play.runs import count_runs, delays, first_wrong, is_delay, moves_at, played, winner

PICK = Promise.read("[a + !a]")
COPY = Promise.read("([a + b] | [!a * !b])")
TWICE = Promise.read("([!b + !c] | ([b * c] & [b * c]))")


class ExamplesTest(unittest.TestCase):
    def test_promises(self):
        copy = Promise.read("([a + b] | [!a * !b])")
        self.assertEqual(
            [copy.nodes[:4], copy.facts, copy.choices, copy.depth, str(-copy), copy.parts[1] == -copy.parts[0]],
            [(("some", 2), ("mine", 2), ("fact", "a"), ("fact", "b")), ("a", "b"), 2, 3, "([!a * !b] & [a + b])", True],
        )
        a = Promise.fact("a")
        self.assertEqual(
            [str(a + -a), str((a | a) & Promise.sure()), str(copy.put("b", a * a)),
             str(copy.renamed({"a": "c", "b": "c"})), a in copy, copy.many("mine"), Promise.of("all", (a, a, a)).depth],
            ["[a + !a]", "((a | a) & yes)", "([a + [a * a]] | [!a * [!a + !a]])", "([c + c] | [!c * !c])", True, 1, 2],
        )
        with self.assertRaises(ParseError):
            Promise.read("a & b")

    def test_places(self):
        twice = Promise.read("([!b + !c] | ([b * c] & [b * c]))")
        self.assertEqual(
            [surface(twice), calls(twice, "caller"), str(called(twice, ((1, 0), 1))), hand_of(twice, ((0,), 1)),
             len(positions(twice))],
            [((), (0,), (1,), (1, 0), (1, 1)), (((1, 0), 0), ((1, 0), 1), ((1, 1), 0), ((1, 1), 1)),
             "([!b + !c] | (c & [b * c]))", "keeper", 27],
        )
        self.assertEqual(
            [str(Surface(twice)), str(part_at(twice, (1, 1))), is_position(twice, "(!b | (b & c))"),
             str(replaced(twice, (1,), Promise.never())), Surface(Promise.sure()).is_over()],
            ["5 places, 1 mine, 2 yours", "[b * c]", True, "([!b + !c] | no)", True],
        )

    def test_worlds(self):
        self.assertEqual(
            [str(plain_form(COPY)), is_stable(COPY), [one for one in worlds(Promise.read("(b | !a)"))],
             false_worlds(Promise.read("(b | !a)")), str(with_truth(COPY, "a", True))],
            ["(no | yes)", True, [(), ("a",), ("a", "b"), ("b",)], (("a",),), "([yes + b] | [no * !b])"],
        )
        plain = Plain(Promise.read("(b | !a)"))
        self.assertEqual(
            [str(plain), plain.table, plain.needed(), ("a",) in plain, does_depend(COPY, "a"),
             are_equal_plain(Promise.read("(a | !a)"), COPY)],
            ["3 of 4 worlds", (True, False, True, True), ("a", "b"), False, False, True],
        )

    def test_runs(self):
        run = (("caller", (1,), 0), ("keeper", (0,), 0))
        self.assertEqual(
            [moves_at(COPY, "keeper"), str(played(COPY, run)), winner(COPY, run, ()), winner(COPY, run[1:], ("b",)),
             winner(COPY, run[:1], ("a",))],
            [(("keeper", (0,), 0), ("keeper", (0,), 1)), "(a | !a)", "keeper", "keeper", "caller"],
        )
        self.assertEqual(
            [is_delay("keeper", run[::-1], run), [one for one in delays("caller", run)], count_runs(COPY),
             first_wrong(COPY, run + run)],
            [True, [(("caller", (1,), 0), ("keeper", (0,), 0)), (("keeper", (0,), 0), ("caller", (1,), 0))], 13, 2],
        )

    def test_plans(self):
        table = {COPY.text: None, "([a + b] | !a)": ((0,), 0), "([a + b] | !b)": ((0,), 1), "(a | !a)": None,
                 "(b | !b)": None}
        plan = Plan(COPY, table)
        self.assertEqual(
            [str(plan), plan.start, plan.most_calls(), due_call(COPY, table, (("caller", (1,), 1),)),
             answered(COPY, table, (((1,), 0),)), is_plan(PICK, {PICK.text: ((), 0), "a": None})],
            ["5 positions, 2 calls", None, 1, ((0,), 1), (("caller", (1,), 0), ("keeper", (0,), 0)), False],
        )

    def test_kept_promises(self):
        self.assertEqual(
            [is_kept(PICK), is_kept(COPY), is_kept(TWICE), good_calls(COPY), hurting_calls(TWICE), may_wait(COPY),
             kept_paper(PICK)[0]],
            [False, True, False, (), (((1, 0), 0), ((1, 0), 1), ((1, 1), 0), ((1, 1), 1)), True, "counter"],
        )
        keeper = Keeper(COPY)
        self.assertEqual(
            [keeper.hear((1,), 1), keeper.settle(), keeper.position.text, keeper.so_far, str(keeper)],
            [None, (((0,), 1),), "(b | !b)", (("caller", (1,), 1), ("keeper", (0,), 1)), "2 moves, left (b | !b)"],
        )

    def test_counters(self):
        table = {PICK.text: ("rest", ()), "a": ("rest", ()), "!a": ("rest", ("a",))}
        self.assertEqual(
            [is_counter(PICK, table), meeting(PICK, {PICK.text: ((), 1)}, table), meeting(PICK, {}, table),
             Counter(PICK, table).rests],
            [True, ((("keeper", (), 1),), ("a",)), ((), ()), ((), ("a",))],
        )
        self.assertEqual(
            [caller_wins(PICK, table, (((), 0),)), last_world(PICK, table, (("keeper", (), 0),)),
             due_counter(PICK, table, ()), is_counter(COPY, {COPY.text: ("rest", ())})],
            [(("keeper", (), 0),), (), None, False],
        )

    def test_fewest_calls(self):
        half = Promise.read("([a + b] | !a)")
        self.assertEqual(
            [need(COPY), need(PICK), need(half), sparing_calls(half), sparing_calls(COPY), len(needs(COPY)),
             needs(COPY)["(a | [!a * !b])"]],
            [1, 11, 1, (((0,), 0),), (), 9, 11],
        )
        self.assertEqual(
            [is_least_table(COPY, 1, {COPY.text: 1, half.text: 1}), is_most_table(half, 1, {half.text: 1, "(a | !a)": 0}),
             is_most_table(half, 0, {half.text: 0})],
            [True, True, False],
        )

    def test_the_promises_of_most_examples(self):
        for text in ("[a + !a]", "([a + b] | [!a * !b])", "([!b + !c] | ([b * c] & [b * c]))"):
            self.assertEqual(str(Promise.read(text)), text)


if __name__ == "__main__":
    unittest.main()
