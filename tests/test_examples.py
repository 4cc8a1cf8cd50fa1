"""The examples of the document, as they stand there."""

import unittest

from eitherhand.base.places import (
    Surface, called, calls, hand_of, is_position, part_at, positions, replaced, surface,
)
from eitherhand.base.promises import Promise
from eitherhand.errors import ParseError, Refused
from eitherhand.given.asking import Asker, good_questions, is_asking_paper, is_kept_asking, questions
from eitherhand.given.books import Book, claim, follows, least_parts, needed
from eitherhand.given.sets import (
    greatest_sets, is_kept_alone, is_kept_in, is_kept_knowing, is_set_paper, knowing_paper, least_facts, set_paper,
)
from eitherhand.keep.counters import Counter, caller_wins, due_counter, is_counter, last_world, meeting
from eitherhand.keep.fewest import is_least_table, is_most_table, need, needs, sparing_calls
from eitherhand.keep.kept import Keeper, good_calls, hurting_calls, is_kept, kept_paper, may_wait
from eitherhand.keep.plans import Plan, answered, due_call, is_plan
from eitherhand.order.leads import Order, bridge, copy_table, leads, order_paper
from eitherhand.order.shapes import branch_at, exchanged, is_tidy, join, paths, spread, tidied
from eitherhand.plain.worlds import (
    Plain, are_equal_plain, does_depend, false_worlds, is_stable, plain_form, with_truth, worlds,
)
from eitherhand.play.runs import count_runs, delays, first_wrong, is_delay, moves_at, played, winner
from eitherhand.text.shell import Shell
from eitherhand.text.texts import read, write
from eitherhand.use.project import Project

PICK = Promise.read("[a + !a]")
COPY = Promise.read("([a + b] | [!a * !b])")
TWICE = Promise.read("([!b + !c] | ([b * c] & [b * c]))")


class ExamplesTest(unittest.TestCase):
    def test_promises(self):
        copy = Promise.read("([a + b] | [!a * !b])")
        self.assertEqual(
            [copy.nodes[:4], copy.facts, copy.choices, copy.depth, str(-copy), copy.parts[1] == -copy.parts[0]],
            [(("some", 2), ("mine", 2), ("fact", "a"), ("fact", "b")), ("a", "b"), 2, 3, "([!a * !b] & [a + b])", True],
        )
        a = Promise.fact("a")
        self.assertEqual(
            [str(a + -a), str((a | a) & Promise.sure()), str(copy.put("b", a * a)),
             str(copy.renamed({"a": "c", "b": "c"})), a in copy, copy.many("mine"), Promise.of("all", (a, a, a)).depth],
            ["[a + !a]", "((a | a) & yes)", "([a + [a * a]] | [!a * [!a + !a]])", "([c + c] | [!c * !c])", True, 1, 2],
        )
        with self.assertRaises(ParseError):
            Promise.read("a & b")

    def test_places(self):
        twice = Promise.read("([!b + !c] | ([b * c] & [b * c]))")
        self.assertEqual(
            [surface(twice), calls(twice, "caller"), str(called(twice, ((1, 0), 1))), hand_of(twice, ((0,), 1)),
             len(positions(twice))],
            [((), (0,), (1,), (1, 0), (1, 1)), (((1, 0), 0), ((1, 0), 1), ((1, 1), 0), ((1, 1), 1)),
             "([!b + !c] | (c & [b * c]))", "keeper", 27],
        )
        self.assertEqual(
            [str(Surface(twice)), str(part_at(twice, (1, 1))), is_position(twice, "(!b | (b & c))"),
             str(replaced(twice, (1,), Promise.never())), Surface(Promise.sure()).is_over()],
            ["5 places, 1 mine, 2 yours", "[b * c]", True, "([!b + !c] | no)", True],
        )

    def test_worlds(self):
        self.assertEqual(
            [str(plain_form(COPY)), is_stable(COPY), [one for one in worlds(Promise.read("(b | !a)"))],
             false_worlds(Promise.read("(b | !a)")), str(with_truth(COPY, "a", True))],
            ["(no | yes)", True, [(), ("a",), ("a", "b"), ("b",)], (("a",),), "([yes + b] | [no * !b])"],
        )
        plain = Plain(Promise.read("(b | !a)"))
        self.assertEqual(
            [str(plain), plain.table, plain.needed(), ("a",) in plain, does_depend(COPY, "a"),
             are_equal_plain(Promise.read("(a | !a)"), COPY)],
            ["3 of 4 worlds", (True, False, True, True), ("a", "b"), False, False, True],
        )

    def test_runs(self):
        run = (("caller", (1,), 0), ("keeper", (0,), 0))
        self.assertEqual(
            [moves_at(COPY, "keeper"), str(played(COPY, run)), winner(COPY, run, ()), winner(COPY, run[1:], ("b",)),
             winner(COPY, run[:1], ("a",))],
            [(("keeper", (0,), 0), ("keeper", (0,), 1)), "(a | !a)", "keeper", "keeper", "caller"],
        )
        self.assertEqual(
            [is_delay("keeper", run[::-1], run), [one for one in delays("caller", run)], count_runs(COPY),
             first_wrong(COPY, run + run)],
            [True, [(("caller", (1,), 0), ("keeper", (0,), 0)), (("keeper", (0,), 0), ("caller", (1,), 0))], 13, 2],
        )

    def test_plans(self):
        table = {COPY.text: None, "([a + b] | !a)": ((0,), 0), "([a + b] | !b)": ((0,), 1), "(a | !a)": None,
                 "(b | !b)": None}
        plan = Plan(COPY, table)
        self.assertEqual(
            [str(plan), plan.start, plan.most_calls(), due_call(COPY, table, (("caller", (1,), 1),)),
             answered(COPY, table, (((1,), 0),)), is_plan(PICK, {PICK.text: ((), 0), "a": None})],
            ["5 positions, 2 calls", None, 1, ((0,), 1), (("caller", (1,), 0), ("keeper", (0,), 0)), False],
        )

    def test_kept_promises(self):
        self.assertEqual(
            [is_kept(PICK), is_kept(COPY), is_kept(TWICE), good_calls(COPY), hurting_calls(TWICE), may_wait(COPY),
             kept_paper(PICK)[0]],
            [False, True, False, (), (((1, 0), 0), ((1, 0), 1), ((1, 1), 0), ((1, 1), 1)), True, "counter"],
        )
        keeper = Keeper(COPY)
        self.assertEqual(
            [keeper.hear((1,), 1), keeper.settle(), keeper.position.text, keeper.so_far, str(keeper)],
            [None, (((0,), 1),), "(b | !b)", (("caller", (1,), 1), ("keeper", (0,), 1)), "2 moves, left (b | !b)"],
        )

    def test_counters(self):
        table = {PICK.text: ("rest", ()), "a": ("rest", ()), "!a": ("rest", ("a",))}
        self.assertEqual(
            [is_counter(PICK, table), meeting(PICK, {PICK.text: ((), 1)}, table), meeting(PICK, {}, table),
             Counter(PICK, table).rests],
            [True, ((("keeper", (), 1),), ("a",)), ((), ()), ((), ("a",))],
        )
        self.assertEqual(
            [caller_wins(PICK, table, (((), 0),)), last_world(PICK, table, (("keeper", (), 0),)),
             due_counter(PICK, table, ()), is_counter(COPY, {COPY.text: ("rest", ())})],
            [(("keeper", (), 0),), (), None, False],
        )

    def test_fewest_calls(self):
        half = Promise.read("([a + b] | !a)")
        self.assertEqual(
            [need(COPY), need(PICK), need(half), sparing_calls(half), sparing_calls(COPY), len(needs(COPY)),
             needs(COPY)["(a | [!a * !b])"]],
            [1, 11, 1, (((0,), 0),), (), 9, 11],
        )
        self.assertEqual(
            [is_least_table(COPY, 1, {COPY.text: 1, half.text: 1}), is_most_table(half, 1, {half.text: 1, "(a | !a)": 0}),
             is_most_table(half, 0, {half.text: 0})],
            [True, True, False],
        )

    def test_the_order(self):
        one, more, less = Promise.read("a"), Promise.read("[a + b]"), Promise.read("[a * b]")
        order = Order(one, more, less)
        self.assertEqual(
            [order.pairs, order.classes, order.links(), order.above(2), str(order), bridge(one, more).text,
             leads(more, one), order_paper(more, one)[0]],
            [((0, 0), (0, 1), (1, 1), (2, 0), (2, 1), (2, 2)), ((0,), (1,), (2,)), ((0, 1), (2, 0)), (0, 1),
             "3 promises, 3 classes", "(!a | [a + b])", False, "not"],
        )
        self.assertEqual(
            copy_table(more),
            {"(!a | [a + b])": ((1,), 0), "(!a | a)": None, "(!b | [a + b])": ((1,), 1), "(!b | b)": None,
             "([!a * !b] | [a + b])": None},
        )

    def test_shapes(self):
        self.assertEqual(
            [tidied(Promise.read("((a & yes) & [b + no])")).text, tidied(PICK).text, is_tidy(PICK),
             branch_at(COPY, (1, 0)).text, paths(PICK)],
            ["(a & b)", "[!a + a]", False, "!a", ((), (0,), (1,))],
        )
        self.assertEqual(
            [exchanged(COPY, (0,), Promise.read("c")).text, join(PICK, COPY).text,
             spread(Promise.read("(a & [b + c])"), (), 1).text],
            ["(c | [!a * !b])", "[[a + !a] + ([a + b] | [!a * !b])]", "[(a & b) + (a & c)]"],
        )

    def test_sets_of_worlds(self):
        self.assertEqual(
            [is_kept_in(PICK, ((), ("a",))), is_kept_alone(PICK), greatest_sets(PICK), least_facts(PICK),
             greatest_sets(Promise.read("[a * !a]"))],
            [False, True, (((),), (("a",),)), (("a",),), ((),)],
        )
        self.assertEqual(
            [set_paper(PICK, ((),))[0], is_set_paper(PICK, ((),), ("kept", {"[a + !a]": ((), 1), "!a": None})),
             is_kept_knowing(PICK, ("a",)), knowing_paper(PICK, ())[0]],
            ["kept", True, True, "barred"],
        )

    def test_books(self):
        once, both = Promise.read("[b * c]"), Promise.read("([b * c] & [b * c])")
        self.assertEqual(
            [follows((once,), both), follows((once, once), both), needed((once, once), both),
             least_parts((once, Promise.fact("b")), Promise.fact("b")), str(claim((once,), Promise.fact("c")))],
            [False, True, (0, 1), ((0,), (1,)), "([!b + !c] | c)"],
        )
        book = Book((once, both))
        self.assertEqual(
            [str(book), book.facts, book.keeps(once),
             follows((Promise.read("[b + c]"),), Promise.read("([b + c] & [b + c])"))],
            ["[b * c]; ([b * c] & [b * c])", ("b", "c"), True, True],
        )

    def test_a_live_book(self):
        project = Project({"copy": COPY, "pick": PICK})
        self.assertEqual(
            [project.pin(("kept", "copy")), project.call("copy", (1,), 0), project.promises["copy"].text, project.log,
             project.does_hold(("need", "copy", 0))],
            [(), (), "([a + b] | !a)", ("pin", "call"), False],
        )
        self.assertEqual(
            [project.call("pick", (), 0), project.put("more", COPY), project.remove("pick"), project.undo(many=3),
             str(project)],
            [(), (("more", "new"),), (("pick", "gone"),), (("more", "gone"), ("pick", "new")),
             "2 promises, 1 sayings"],
        )
        with self.assertRaises(Refused) as caught:
            project.call("copy", (0,), 1)
        self.assertEqual(caught.exception.cause, ("kept", "copy"))

    def test_texts_and_a_shell(self):
        self.assertEqual(
            [write("run", (("caller", (1,), 0), ("keeper", (0,), 1))),
             write("counter", {"[a + !a]": ("rest", ()), "a": ("rest", ())}), read("call", "1.0.2"), read("world", "-")],
            ["c1.0 k0.1", "[a + !a]: rest -; a: rest -", ((1, 0), 2), ()],
        )
        shell = Shell()
        self.assertEqual(
            shell.run_all("show", "promise ([a + b] | [!a * !b])", "kept", "need", "caller 1.0", "calls keeper", "good",
                          "holds a", "keeper 0.1", "kept", "back 1", "facts", "oops", "run"),
            ("error InvalidOperation", "ok", "yes", "1", "([a + b] | !a)", "0.0 0.1", "0.0", "no", "(b | !a)", "no",
             "([a + b] | !a)", "-", "error ParseError", "c1.0"),
        )

    def test_asking(self):
        later = Promise.read("[[a + !a] * [b + !b]]")
        self.assertEqual(
            [questions(PICK), questions(later), least_facts(later), questions(COPY), is_kept_asking(later, 0),
             good_questions(later, 1), questions(Promise.read("[a * b]"))],
            [1, 1, (("a", "b"),), 0, False, (), None],
        )
        self.assertIs(
            is_asking_paper(PICK, 1, ("plan", {
                (PICK.text, (), 1): "a", (PICK.text, (("a", True),), 0): ((), 0),
                (PICK.text, (("a", False),), 0): ((), 1), ("a", (("a", True),), 0): None,
                ("!a", (("a", False),), 0): None})), True,
        )
        asker = Asker(later, 1)
        self.assertEqual(
            [asker.wish(), asker.hear((), 1), asker.wish(), asker.tell("b", False), asker.go(), str(asker)],
            [None, None, "b", None, ((), 1), "!b, 1 known, 0 left"],
        )

    def test_the_promises_of_most_examples(self):
        for text in ("[a + !a]", "([a + b] | [!a * !b])", "([!b + !c] | ([b * c] & [b * c]))"):
            self.assertEqual(str(Promise.read(text)), text)


if __name__ == "__main__":
    unittest.main()
