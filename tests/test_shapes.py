"""[11.1] to [11.4]: paths, exchanged parts, joins and meets, tidied and spread promises."""

import random
import unittest

from eitherhand.base.promises import Promise
from eitherhand.errors import (
    InvalidNumber, InvalidOperation, InvalidPlace, InvalidPromise, TooMany,
)
from eitherhand.keep.kept import is_kept, plan_for
from eitherhand.order.leads import are_alike, bridge, copy_table, leads
from eitherhand.order.shapes import (
    branch_at, exchanged, is_exchange, is_tidy, join, meet, paths, spread, tidied,
)
from samples import A, COPY, PICK, TEXTS, TWICE, all_sorts, chain, grown, no_promises, of_all, small_nodes, varied
import reference

SOME = [*[Promise.read(text) for text in TEXTS], COPY, TWICE, *varied(51, 60, facts="abc")]
FOUR_LEAVES = Promise.read("(a & a & a & a)")
WIDE = Promise.read(f"({' & '.join(['(a & a & a & a)'] * 4)})")
CHOICES = Promise.read("(([a + a] & [a + a] & [a + a]) | ([a + a] & [a + a] & [a + a]))")


def all_paths(promise, path=()):
    """The dict from all paths to the parts there, by recursion."""
    found = {path: promise}
    for at, part in enumerate(promise.parts):
        found.update(all_paths(part, path + (at,)))
    return found


def put_at(promise, path, other):
    """The promise with another part at a path, by recursion."""
    if path == ():
        return other
    return promise.with_part(path[0], put_at(promise.parts[path[0]], path[1:], other))


class PathsTest(unittest.TestCase):
    def test_paths_and_parts(self):
        for promise in SOME:
            expected = all_paths(promise)
            self.assertEqual(paths(promise), tuple(sorted(expected)))
            self.assertEqual(len(paths(promise)), len(promise))
            for path, part in expected.items():
                found = branch_at(promise, path)
                self.assertIs(type(found), Promise)
                self.assertEqual(found, part)

    def test_paths_through_choices(self):
        self.assertEqual(paths(COPY), ((), (0,), (0, 0), (0, 1), (1,), (1, 0), (1, 1)))
        self.assertEqual(branch_at(Promise.read("[[a * [b + c]] + d]"), (0, 1, 1)).text, "c")

    def test_no_paths(self):
        for path in ((True,), (False,), (-1,), (2,), (0, 2), (0, 0, 0), [0], [], (0, [0]), ((0,),), ("0",), 0, None,
                     (10 ** 60,), (0, None), (1, True), (0,) * 9, {0: 0}):
            for call in (lambda: branch_at(COPY, path), lambda: exchanged(COPY, path, A), lambda: spread(COPY, path, 0),
                         lambda: is_exchange(COPY, path, A, None)):
                with self.assertRaises(InvalidPlace):
                    call()

    def test_exchanged(self):
        rng = random.Random(52)
        for promise in SOME:
            for path in paths(promise):
                other = rng.choice((A, PICK, Promise.sure()))
                try:
                    expected = put_at(promise, path, other)
                except InvalidPromise:
                    with self.assertRaises(InvalidOperation):
                        exchanged(promise, path, other)
                    continue
                self.assertEqual(exchanged(promise, path, other), expected)
        self.assertEqual(exchanged(A, (), COPY), COPY)

    def test_exchanged_beyond_each_bound(self):
        nodes = Promise.read(f"({WIDE} & a & a)")
        for promise, path, fine, over in (
            (nodes, (1,), of_all(*[FOUR_LEAVES] * 3), of_all(*[FOUR_LEAVES] * 4)),
            (chain(7), (0,) * 6, chain(2), chain(3)),
            (Promise.read("(a & b & c & d)"), (0,), Promise.read("(a & e & f)"), Promise.read("(e & f & g & h)")),
            (Promise.read(f"({CHOICES} & a)"), (1,), of_all(PICK, PICK, PICK, PICK), of_all(PICK, PICK, PICK & PICK, PICK)),
        ):
            self.assertEqual(exchanged(promise, path, fine), put_at(promise, path, fine))
            with self.assertRaises(InvalidOperation):
                exchanged(promise, path, over)
        with self.assertRaises(InvalidPromise):
            exchanged(WIDE, (0,), "a")
        with self.assertRaises(InvalidPlace):
            exchanged(WIDE, (9,), "a")

    def test_exchanging_a_part_for_one_to_which_it_leads(self):
        rng = random.Random(53)
        for promise in [one for one in SOME if one.choices <= 2 and len(one) <= 12][:40]:
            for path in paths(promise):
                part = branch_at(promise, path)
                if part.choices == 0:
                    other = part | grown(rng, 1, "a")
                else:
                    other = part + A
                if len(promise) + len(other) < 18 and leads(part, other):
                    try:
                        after = exchanged(promise, path, other)
                        self.assertIs(leads(promise, after), True)
                        self.assertIs(is_exchange(promise, path, other, plan_for(bridge(promise, after))), True)
                    except InvalidOperation:
                        continue


class JoinTest(unittest.TestCase):
    def test_joins_and_meets(self):
        for parts in ((A, PICK), (PICK, A, COPY), (A, A, A, A), (COPY, COPY)):
            self.assertEqual(join(*parts), Promise.of("mine", parts))
            self.assertEqual(meet(*parts), Promise.of("yours", parts))

    def test_what_they_are(self):
        some = [Promise.read(text) for text in ("a", "b", "[a + b]", "[a * b]", "no", "yes", "(a & b)")]
        for one in some:
            for other in some:
                for third in some:
                    self.assertIs(leads(join(one, other), third), leads(one, third) and leads(other, third))
                    self.assertIs(leads(third, meet(one, other)), leads(third, one) and leads(third, other))

    def test_numbers_of_promises(self):
        for call in (join, meet):
            for many in (0, 1, 5, 6):
                with self.assertRaises(InvalidOperation):
                    call(*[A] * many)
                with self.assertRaises(InvalidOperation):
                    call(*[None] * many)
            for value in no_promises():
                for told in ((value, A), (A, value), (chain(8), value), (A, A, value, A)):
                    with self.assertRaises(InvalidPromise):
                        call(*told)

    def test_beyond_each_bound(self):
        for call in (join, meet):
            for told in ((WIDE, WIDE), (A, chain(8)), (CHOICES, of_all(PICK, PICK, PICK, PICK)),
                         (Promise.read("(a & b & c & d)"), Promise.read("(e & f & g)"))):
                with self.assertRaises(InvalidOperation):
                    call(*told)
            self.assertEqual(call(A, chain(7)).depth, 8)
            self.assertEqual(call(CHOICES, of_all(PICK, PICK, PICK)).choices, 10)


class TidyTest(unittest.TestCase):
    def tidy(self, text, expected):
        self.assertEqual(tidied(Promise.read(text)).text, expected)
        self.assertEqual(reference.tidy(Promise.read(text)).text, expected)

    def test_by_another_reading(self):
        for promise in [*SOME, *[Promise(nodes) for nodes in small_nodes(5)], *varied(54, 300, facts="ab", most=9)]:
            found = tidied(promise)
            self.assertEqual(found, reference.tidy(promise))
            self.assertEqual(tidied(found), found)
            self.assertIs(is_tidy(found), True)
            self.assertIs(is_tidy(promise), found == promise)

    def test_parts_of_the_same_kind(self):
        for sign, brackets in (("&", "()"), ("|", "()"), ("+", "[]"), ("*", "[]")):
            for text, expected in (
                ("<a # <b # c>>", "<a # b # c>"), ("<<a # b> # <c # d>>", "<a # b # c # d>"),
                ("<<a # <b # c>> # d>", "<a # b # c # d>"),
                # One part more would be the fifth.
                ("<a # b # c # <d # e>>", "<<d # e> # a # b # c>"),
                ("<a # <b # c> # <d # e>>", "<<d # e> # a # b # c>"),
                ("<<b # c # d> # a # <e # f>>", "<<b # c # d> # a # e # f>"),
                # The first one makes too many, the one behind it does not.
                ("<a # <b # c # d> # <e # f>>", "<<b # c # d> # a # e # f>"),
                ("<f # <b # c # d # e> # a>", "<<b # c # d # e> # a # f>"),
                ("<<b # c # d> # <e # f>>", "<<e # f> # b # c # d>"),
                ("<<a # b # c # d> # <e # f>>", "<<a # b # c # d> # e # f>"),
            ):
                marks = str.maketrans("<>#", brackets + sign)
                self.tidy(text.translate(marks), expected.translate(marks))

    def test_a_part_that_decides(self):
        for text, expected in (("(a & no)", "no"), ("[a * no]", "no"), ("(a | yes)", "yes"), ("[a + yes]", "yes"),
                               ("(a & no & [b + c])", "no"), ("[yes + [a * b] + no]", "yes"), ("(no & yes)", "no"),
                               ("[no * yes]", "no"), ("(no | yes)", "yes"), ("[no + yes]", "yes"),
                               ("(a & (b & no))", "no"), ("([a * no] & b)", "no"), ("[(a & no) + b]", "b"),
                               ("[(a | yes) * b]", "b")):
            self.tidy(text, expected)

    def test_parts_that_are_left_out(self):
        for text, expected in (("(a & yes)", "a"), ("[yes * a]", "a"), ("(no | a)", "a"), ("[a + no + b]", "[a + b]"),
                               ("(yes & yes)", "yes"), ("[yes * yes * yes]", "yes"), ("(no | no)", "no"),
                               ("[no + no]", "no"), ("((yes & yes) & a)", "a"), ("[[no + no] * a]", "no"),
                               ("(yes & a & yes & b)", "(a & b)")):
            self.tidy(text, expected)

    def test_equal_parts(self):
        for text, expected in (("[a + a]", "a"), ("[a * b * a]", "[a * b]"), ("(a & a)", "a"), ("(b | a | b)", "(a | b)"),
                               ("([a + b] & [b + a])", "([a + b] & [a + b])"), ("([a * b] | [a * b])", "([a * b] | [a * b])"),
                               ("[[a * b] + [b * a]]", "[a * b]"), ("((a | b) & (b | a))", "(a | b)"),
                               ("(a & [b + c] & a & [c + b])", "([b + c] & [b + c] & a)"),
                               ("([a + a] & a)", "a")):
            self.tidy(text, expected)

    def test_parts_in_order_of_their_texts(self):
        self.tidy("(b & a)", "(a & b)")
        self.tidy("[b * !c * (a & d) * a]", "[!c * (a & d) * a * b]")
        self.tidy("([a + b] | (c & b) | yes)", "yes")
        self.tidy("([b + a] | (c & b) | !a)", "(!a | (b & c) | [a + b])")
        self.tidy("(aa & b & a & ab)", "(a & aa & ab & b)")

    def test_the_first_step_that_changes_anything(self):
        # A part is opened ahead of what is decided, left out and put in order, and is opened again behind that.
        self.tidy("[a + b + c + [d + e]]", "[[d + e] + a + b + c]")
        self.tidy("[a + a + c + [d + e]]", "[a + c + d + e]")
        self.tidy("(yes & b & c & (d & e))", "(b & c & d & e)")
        self.tidy("(c & b & a & (e & d))", "((d & e) & a & b & c)")
        self.tidy("[a * b * (c & no) * [d * e]]", "no")
        self.tidy("[no + no + (a | yes) + [a + b]]", "yes")
        self.tidy("(a & (b & a) & (c & d & e))", "((c & d & e) & a & b)")

    def test_the_tidied_promise_is_alike(self):
        for promise in [one for one in SOME if one.choices <= 2 and len(one) <= 18 and one.depth < 8]:
            self.assertIs(are_alike(promise, tidied(promise)), True)
            self.assertIs(is_kept(promise), is_kept(tidied(promise)))

    def test_is_tidy(self):
        for value in all_sorts():
            self.assertIs(is_tidy(value), isinstance(value, Promise) and value != PICK)
        for text in ("a", "!a", "yes", "no", "[!a + a]", "([a + b] & [a + b])", "[[a * b] + c]"):
            self.assertIs(is_tidy(Promise.read(text)), True)
        for text in ("[a + !a]", "(a & yes)", "(a & (b & c))", "[a + a]", "[b * a]", "[a + (c & b)]"):
            self.assertIs(is_tidy(Promise.read(text)), False)

    def test_great_promises(self):
        self.assertEqual(tidied(WIDE), A)
        self.assertEqual(tidied(chain(8)), A)
        self.assertEqual(tidied(CHOICES), A)


class SpreadTest(unittest.TestCase):
    def test_both_kinds(self):
        for text, path, index, expected in (
            ("(a & [b + c])", (), 1, "[(a & b) + (a & c)]"), ("([b + c] & a)", (), 0, "[(b & a) + (c & a)]"),
            ("(a | [b * c])", (), 1, "[(a | b) * (a | c)]"),
            ("(a & [b + c + d] & e)", (), 1, "[(a & b & e) + (a & c & e) + (a & d & e)]"),
            ("([a + b] & [c + d])", (), 0, "[(a & [c + d]) + (b & [c + d])]"),
            ("([a + b] & [c + d])", (), 1, "[([a + b] & c) + ([a + b] & d)]"),
            ("[(a | [b * c]) + d]", (0,), 1, "[[(a | b) * (a | c)] + d]"),
            ("[d * [a + (a & [b + c])]]", (1, 1), 1, "[d * [a + [(a & b) + (a & c)]]]"),
            ("(a | [b * b])", (), 1, "[(a | b) * (a | b)]"),
            ("((a & [b + [c * d]]) | [b * c])", (0,), 1, "([(a & b) + (a & [c * d])] | [b * c])"),
            ("((a & [b + [c * d]]) | [b * c])", (), 1, "[((a & [b + [c * d]]) | b) * ((a & [b + [c * d]]) | c)]"),
        ):
            promise = Promise.read(text)
            found = spread(promise, path, index)
            self.assertEqual(found.text, expected)
            if promise.choices + found.choices <= 8:
                self.assertIs(are_alike(promise, found), True)

    def test_nodes_that_cannot_be_spread(self):
        for text, path, index in (
            ("(a & [b * c])", (), 1), ("(a | [b + c])", (), 1), ("(a & [b + c])", (), 0), ("(a & (b | c))", (), 1),
            ("(a & (b & c))", (), 1), ("[a + [b + c]]", (), 1), ("[a * [b + c]]", (), 1), ("[a + [b * c]]", (), 1),
            ("[a * [b * c]]", (), 1), ("(a & [b + c])", (1,), 0), ("(a | yes)", (), 1), ("(!a & a)", (), 0),
        ):
            with self.assertRaises(InvalidOperation):
                spread(Promise.read(text), path, index)

    def test_indices(self):
        promise = Promise.read("(a & [b + c])")
        for value in [*all_sorts(), 2, -1, True, False]:
            if type(value) is int and value in (0, 1):
                continue
            with self.assertRaises(InvalidNumber) as caught:
                spread(promise, (), value)
            self.assertEqual(caught.exception.number, value)
            with self.assertRaises(InvalidNumber):
                spread(promise, (0,), value)
        for index in (0, 1, None):
            with self.assertRaises(InvalidNumber):
                spread(A, (), index)
        with self.assertRaises(InvalidNumber):
            spread(Promise.read("[a + b]"), (), 2)

    def test_beyond_each_bound(self):
        chosen = Promise.read("[a + b]")
        seventeen = of_all(FOUR_LEAVES, FOUR_LEAVES, FOUR_LEAVES, A)
        eighteen = of_all(FOUR_LEAVES, FOUR_LEAVES, A & A, of_all(A, A, A))
        self.assertEqual([len(seventeen), len(eighteen)], [17, 18])
        self.assertEqual(len(spread(seventeen & chosen, (), 1)), 39)
        with self.assertRaises(InvalidOperation):
            spread(eighteen & chosen, (), 1)
        five = of_all(PICK, PICK, PICK, PICK)
        self.assertEqual(spread(five & chosen, (), 1).choices, 9)
        with self.assertRaises(InvalidOperation):
            spread(of_all(PICK, PICK, PICK, PICK & PICK) & chosen, (), 1)
        self.assertEqual(spread(chain(6) & chosen, (), 1).depth, 8)
        with self.assertRaises(InvalidOperation):
            spread(chain(7) & chosen, (), 1)


class IsExchangeTest(unittest.TestCase):
    def test_plans_told_and_plans_near_them(self):
        promise, other = Promise.read("[a * (a & b)]"), Promise.read("a")
        whole = bridge(promise, Promise.read("[a * a]"))
        table = plan_for(whole)
        self.assertIs(is_exchange(promise, (1,), other, table), True)
        self.assertTrue(reference.is_plan(whole.text, table))
        for key in table:
            less = {text: told for text, told in table.items() if text != key}
            self.assertIs(is_exchange(promise, (1,), other, less), reference.is_plan(whole.text, less))
        for bad in ({}, list(table), ("leads", table), ("plan", table), None, {**table, "": None},
                    {**table, whole.text: ((0,), True)}):
            self.assertIs(is_exchange(promise, (1,), other, bad), False)
        self.assertIs(is_exchange(COPY, (), COPY, copy_table(COPY)), True)

    def test_no_plan_where_the_part_does_not_lead_to_the_other_one(self):
        self.assertIs(is_exchange(A, (), -A, {"(!a | !a)": None}), False)
        self.assertIs(is_exchange(A, (), A, {"(!a | a)": None}), True)

    def test_all_sorts(self):
        for value in all_sorts():
            self.assertIs(is_exchange(COPY, (0,), A, value), False)

    def test_errors(self):
        deep = chain(8)
        more = Promise.read("(([a + b] & [a + b] & [a + b]) & ([a + b] & [c + c]))")
        for call, error in (
            (lambda: is_exchange(1, (), A, None), InvalidPromise), (lambda: is_exchange(A, (1,), A, None), InvalidPlace),
            (lambda: is_exchange(A, (), 1, None), InvalidPromise),
            (lambda: is_exchange(chain(7), (1,), chain(8), None), InvalidOperation),
            (lambda: is_exchange(deep, (1,), A, None), InvalidOperation),
            (lambda: is_exchange(A, (), deep, None), InvalidOperation),
            (lambda: is_exchange(more, (0,), more, None), InvalidOperation),
            (lambda: is_exchange(more, (), more, None), TooMany),
        ):
            with self.assertRaises(error):
                call()


if __name__ == "__main__":
    unittest.main()
