"""Class methods, operators and methods of a promise, and the errors of each."""

import unittest

from eitherhand.base.promises import KINDS, Promise
from eitherhand.errors import InvalidNumber, InvalidOperation, InvalidPromise, InvalidWord
from samples import A, COPY, TEXTS, all_sorts, no_promises, small_nodes

B = Promise.fact("b")
# 37 nodes: any two such are too many.
BIG = Promise.of("all", (Promise.of("all", (A,) * 4),) * 3 + (Promise.of("all", (Promise.of("all", (A,) * 4),) * 4),))
SMALL = [Promise(nodes) for nodes in small_nodes(4)]


class OperationsTest(unittest.TestCase):
    def unchanged(self, error, call, promise=COPY):
        """The error of a call, behind which the promise is as it was."""
        before = promise.nodes
        with self.assertRaises(error) as caught:
            call()
        self.assertEqual(promise.nodes, before)
        return caught.exception

    def test_of(self):
        for kind in KINDS:
            for parts in ((A, B), (A, B, COPY), (B, A, -A, COPY), (A, A)):
                nodes = ((kind, len(parts)),) + tuple(node for part in parts for node in part)
                self.assertEqual(Promise.of(kind, parts).nodes, nodes)
                self.assertEqual(Promise.of(parts=parts, kind=kind).parts, parts)

    def test_of_refuses(self):
        for kind in [*all_sorts(), "All", "all ", ""]:
            if not isinstance(kind, str) or kind not in KINDS:
                self.unchanged(InvalidOperation, lambda: Promise.of(kind, (A, B)))
        for parts in [*all_sorts(), [A, B], (A,), (A,) * 5, (A, "b"), (A, B, None), (A, B.nodes), {0: A, 1: B}]:
            if parts != (A, Promise.sure()):
                self.unchanged(InvalidOperation, lambda: Promise.of("all", parts))
        self.unchanged(InvalidOperation, lambda: Promise.of("any", (BIG, BIG)))
        self.unchanged(InvalidOperation, lambda: Promise.of("any", (A,)))
        self.unchanged(InvalidOperation, lambda: Promise.of("all", (BIG, BIG, None)))
        self.unchanged(InvalidPromise, lambda: Promise.of("all", (BIG, BIG)))

    def test_fact(self):
        self.assertEqual(Promise.fact(word="abcdefgh").text, "abcdefgh")
        words = ("a", "rain", "all", "some", "mine", "yours", "fact", "not", "keeper", "caller")
        for value in [*all_sorts(), "Rain", "!a", "a ", "abcdefghi"]:
            if not isinstance(value, str) or value not in words:
                self.unchanged(InvalidWord, lambda: Promise.fact(value))

    def test_operators(self):
        self.assertEqual((A & COPY).nodes, (("all", 2),) + A.nodes + COPY.nodes)
        self.assertEqual((COPY | A).nodes, (("some", 2),) + COPY.nodes + A.nodes)
        self.assertEqual((A + COPY).nodes, (("mine", 2),) + A.nodes + COPY.nodes)
        self.assertEqual((COPY * A).nodes, (("yours", 2),) + COPY.nodes + A.nodes)
        self.assertEqual(((A & B) & A).text, "((a & b) & a)")

    def test_operators_refuse(self):
        for value in no_promises():
            self.unchanged(InvalidOperation, lambda: COPY & value)
            self.unchanged(InvalidOperation, lambda: COPY | value)
            self.unchanged(InvalidOperation, lambda: COPY + value)
            self.unchanged(InvalidOperation, lambda: COPY * value)

    def test_turned_round(self):
        self.assertEqual((-COPY).text, "([!a * !b] & [a + b])")
        texts = ["a", "!a", "yes", "no", "(a & b)", "(a | b)", "[a + b + c]", "[a * b]"]
        turned = ["!a", "a", "no", "yes", "(!a | !b)", "(!a & !b)", "[!a * !b * !c]", "[!a + !b]"]
        self.assertEqual([(-Promise.read(text)).text for text in texts], turned)

    def test_turned_round_twice(self):
        for promise in [*SMALL, *[Promise.read(text) for text in TEXTS]]:
            self.assertEqual(-(-promise), promise)
            self.assertNotEqual(-promise, promise)
            self.assertEqual((-promise).facts, promise.facts)
            self.assertEqual([-part for part in promise.parts], list((-promise).parts))

    def test_renamed(self):
        self.assertEqual(COPY.renamed({"a": "b", "b": "a"}).text, "([b + a] | [!b * !a])")
        self.assertEqual(COPY.renamed({"b": "c", "a": "c"}).text, "([c + c] | [!c * !c])")
        self.assertEqual(COPY.renamed(names={"a": "a", "b": "b"}), COPY)
        self.assertEqual(Promise.sure().renamed({}), Promise.sure())
        names = {"a": "rain", "b": "snow"}
        self.assertEqual(COPY.renamed(names).facts, ("rain", "snow"))
        self.assertEqual(names, {"a": "rain", "b": "snow"})
        self.assertEqual(COPY.text, "([a + b] | [!a * !b])")

    def test_renamed_refuses(self):
        names = [
            {}, {"a": "c"}, {"b": "c"}, {"a": "c", "b": "c", "c": "c"}, {"a": "c", "c": "c"}, {"a": "c", "B": "c"},
            {"a": "c", 1: "c"}, {"a": "c", ("b",): "c"}, (("a", "c"), ("b", "c")), ["a", "b"],
        ]
        for value in [*names, *all_sorts()]:
            self.unchanged(InvalidOperation, lambda: COPY.renamed(value))
        for value in all_sorts():
            if not isinstance(value, str) or value not in ("a", "rain", "all", "some", "mine", "yours", "fact", "not",
                                                           "keeper", "caller"):
                self.unchanged(InvalidOperation, lambda: COPY.renamed({"a": "c", "b": value}))
                self.unchanged(InvalidOperation, lambda: COPY.renamed({"a": value, "b": "c"}))
            if value != {}:
                self.unchanged(InvalidOperation, lambda: Promise.never().renamed(value))

    def test_put(self):
        self.assertEqual(COPY.put("b", A * A).text, "([a + [a * a]] | [!a * [!a + !a]])")
        self.assertEqual(COPY.put("c", A), COPY)
        self.assertEqual(Promise.sure().put("c", A), Promise.sure())
        self.assertEqual(A.put("a", COPY), COPY)
        self.assertEqual((-A).put(word="a", other=COPY), -COPY)
        self.assertEqual((A & -A).put("a", Promise.sure()).text, "(yes & no)")
        self.assertEqual((A & B).put("a", A & A).text, "((a & a) & b)")
        self.assertEqual((A & B).put("a", B).put("b", A).text, "(a & a)")

    def test_put_refuses(self):
        for value in [*all_sorts(), "A", "yes", "a "]:
            if not isinstance(value, str) or not value.isalpha() or value in ("A", "yes", "no", "a" * 9000):
                self.unchanged(InvalidWord, lambda: COPY.put(value, A))
                self.unchanged(InvalidWord, lambda: COPY.put(value, None))
        for value in no_promises():
            self.unchanged(InvalidOperation, lambda: COPY.put("a", value))
            self.unchanged(InvalidOperation, lambda: COPY.put("c", value))

    def test_with_part(self):
        self.assertEqual(COPY.with_part(0, A).text, "(a | [!a * !b])")
        self.assertEqual(COPY.with_part(index=1, other=A).text, "([a + b] | a)")
        four = Promise.read("[a * b * c * d]")
        parts = [four.with_part(at, COPY) for at in range(4)]
        self.assertEqual([promise.parts[at] for at, promise in enumerate(parts)], [COPY] * 4)
        self.assertEqual(parts[3].text, "[a * b * c * ([a + b] | [!a * !b])]")
        self.assertEqual(COPY.text, "([a + b] | [!a * !b])")

    def test_with_part_refuses(self):
        for value in [*all_sorts(), -2, [[0]]]:
            if type(value) is not int or value not in (0, 1):
                error = self.unchanged(InvalidNumber, lambda: COPY.with_part(value, A))
                self.assertEqual(error.number, value)
                self.assertIs(type(error.number), type(value))
                self.unchanged(InvalidNumber, lambda: COPY.with_part(value, None))
            error = self.unchanged(InvalidNumber, lambda: A.with_part(value, B), A)
            self.assertEqual(error.number, value)
        for value in no_promises():
            self.unchanged(InvalidOperation, lambda: COPY.with_part(1, value))

    def test_many(self):
        promise = Promise.read("((a & b) | [c + !d] | [[no * (yes | e)] * f])")
        self.assertEqual([promise.many(kind) for kind in KINDS], [1, 1, 2, 2])
        self.assertEqual([A.many(kind) for kind in KINDS], [0, 0, 0, 0])
        self.assertEqual(COPY.many(kind="mine"), 1)
        for value in [*all_sorts(), "fact", "not", "yes", "no", "Mine"]:
            if not isinstance(value, str) or value not in KINDS:
                self.unchanged(InvalidOperation, lambda: COPY.many(value))

    def test_length_iteration_and_nodes(self):
        for promise in [*SMALL, *[Promise.read(text) for text in TEXTS]]:
            self.assertEqual(len(promise), len(promise.nodes))
            self.assertEqual(tuple(promise), promise.nodes)
            self.assertEqual([promise[at] for at in range(len(promise))], list(promise.nodes))

    def test_indices(self):
        for value in [*all_sorts(), -7, 6, True, False]:
            if type(value) is int and 0 <= value < 7:
                self.assertEqual(COPY[value], COPY.nodes[value])
            else:
                error = self.unchanged(InvalidNumber, lambda: COPY[value])
                self.assertEqual(error.number, value)
                self.assertIs(type(error.number), type(value))
        self.assertIs(self.unchanged(InvalidNumber, lambda: A[True]).number, True)
        self.assertEqual(self.unchanged(InvalidNumber, lambda: A[-1]).number, -1)
        self.assertEqual(self.unchanged(InvalidNumber, lambda: A[1]).number, 1)

    def test_membership(self):
        whole = Promise.read("((a & b) | [c + !d] | [[no * (yes | e)] * f])")
        inside = ["(a & b)", "a", "b", "[c + !d]", "!d", "[[no * (yes | e)] * f]", "[no * (yes | e)]", "(yes | e)", "f"]
        for text in [*inside, whole.text]:
            self.assertIs(Promise.read(text) in whole, True, text)
        for text in ("d", "!a", "(b & a)", "(a | b)", "[c * !d]", "(a & b & c)", "[no * yes]", "((a & b) | [c + !d])"):
            self.assertIs(Promise.read(text) in whole, False, text)
        for value in [*no_promises(), whole.nodes, ("fact", "a"), "a", whole.parts]:
            self.assertIs(value in whole, False)

    def test_membership_goes_through_all_parts(self):
        for promise in SMALL:
            for other in SMALL:
                within = other == promise or any([other in part for part in promise.parts])
                self.assertIs(other in promise, within)

    def test_equality(self):
        for promise in SMALL:
            twin = Promise(promise.nodes)
            self.assertIs(promise == twin, True)
            self.assertIs(promise != twin, False)
        for one in SMALL[:200]:
            for other in SMALL[:200]:
                self.assertIs(one == other, one.nodes == other.nodes)
                self.assertIs(one != other, one.nodes != other.nodes)
        for value in [*no_promises(), COPY.nodes, COPY.text, [COPY], (COPY,), {0: COPY}]:
            self.assertIs(COPY == value, False)
            self.assertIs(COPY != value, True)
            self.assertIs(value == COPY, False)

    def test_the_first_wrong_argument_decides(self):
        self.unchanged(InvalidWord, lambda: BIG.put("No", 3))
        self.unchanged(InvalidWord, lambda: BIG.put("no", BIG), BIG)
        self.unchanged(InvalidOperation, lambda: BIG.put("a", None), BIG)
        self.unchanged(InvalidPromise, lambda: BIG.put("a", BIG), BIG)
        self.unchanged(InvalidNumber, lambda: BIG.with_part(4, None), BIG)
        self.unchanged(InvalidNumber, lambda: BIG.with_part(True, BIG), BIG)
        self.unchanged(InvalidOperation, lambda: BIG.with_part(3, BIG.nodes), BIG)
        self.unchanged(InvalidPromise, lambda: BIG.with_part(3, BIG), BIG)
        self.unchanged(InvalidOperation, lambda: BIG & BIG.nodes, BIG)
        self.unchanged(InvalidPromise, lambda: BIG & BIG, BIG)

    def test_what_is_passed_is_not_changed(self):
        parts = (A, COPY)
        Promise.of("all", parts)
        COPY.with_part(0, A)
        COPY.put("a", B)
        self.assertEqual([parts, A.text, B.text], [(A, COPY), "a", "b"])
        asked = [1, [2]]
        error = self.unchanged(InvalidNumber, lambda: COPY[asked])
        asked[1].append(3)
        self.assertEqual(error.number, [1, [2]])


if __name__ == "__main__":
    unittest.main()
