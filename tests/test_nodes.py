"""[0.8] and the properties of a promise: which nodes are some, and what they tell."""

import unittest

from eitherhand.base import promises
from eitherhand.base.promises import Promise
from eitherhand.errors import InvalidPromise
from samples import COPY, TEXTS, all_sorts, small_nodes

F = ("fact", "a")


def parts_told(nodes):
    """The nodes of the parts of the first node, and the nodes left over, found by recursion."""
    kind, many = nodes[0]
    rest = nodes[1:]
    parts = []
    for _ in range(many if kind in promises.KINDS else 0):
        below, behind = parts_told(rest)
        parts.append(rest[:len(rest) - len(behind)])
        rest = behind
    return parts, rest


def depth_told(nodes):
    """The depth, found by recursion."""
    return 1 + max([depth_told(part) for part in parts_told(nodes)[0]], default=0)


class NodesTest(unittest.TestCase):
    def test_the_constants(self):
        self.assertEqual(promises.MAX_NODES, 40)
        self.assertEqual(promises.MAX_CHOICES, 10)
        self.assertEqual(promises.MAX_FACTS, 6)
        self.assertEqual(promises.MAX_DEPTH, 8)
        self.assertEqual(promises.KINDS, ("all", "mine", "some", "yours"))

    def test_the_nodes_are_kept(self):
        for nodes in small_nodes(5):
            promise = Promise(nodes)
            self.assertEqual(promise.nodes, nodes)
            self.assertIs(type(promise.nodes), tuple)
            self.assertEqual(Promise(nodes=nodes), promise)

    def test_two_three_and_four_parts(self):
        for kind in promises.KINDS:
            for many in (2, 3, 4):
                self.assertEqual(len(Promise(((kind, many),) + (F,) * many).parts), many)
            for many in (-1, 0, 1, 5):
                self.refused(((kind, many),) + (F,) * max(many, 0))

    def refused(self, nodes):
        with self.assertRaises(InvalidPromise, msg=str(nodes)[:80]):
            Promise(nodes)

    def test_too_few_and_too_many_nodes(self):
        self.refused(())
        for nodes in small_nodes(5):
            self.refused(nodes[:-1])
            self.refused(nodes + (F,))
            self.refused(nodes + nodes)
            if len(nodes) > 1:
                self.refused(nodes[1:])
        self.refused((("all", 3), F, ("some", 2), F, F))
        self.refused((("all", 2), ("some", 3), F, F, F))

    def test_nodes_of_no_kind(self):
        for kind in ("", "All", "any", "fact ", "keeper", "(", "&", "none", None, 1, True, ("all",), ["all"]):
            self.refused(((kind, 2), F, F))
            self.refused((("all", 2), (kind, 2), F))
            for told in (0, 2, 3, 4, "a"):
                self.refused(((kind, told),))

    def test_what_stands_beside_a_kind(self):
        for value in all_sorts():
            is_word = isinstance(value, str) and value in ("a", "rain", "all", "some", "mine", "yours",
                                                           "fact", "not", "keeper", "caller")
            for kind in ("fact", "not"):
                if is_word:
                    self.assertEqual(Promise(((kind, value),)).facts, (value,))
                else:
                    self.refused(((kind, value),))
            for kind in ("yes", "no"):
                if type(value) is int and value == 0:
                    self.assertEqual(Promise(((kind, value),)).nodes, ((kind, 0),))
                else:
                    self.refused(((kind, value),))
            for kind in promises.KINDS:
                if not (type(value) is int and 2 <= value <= 4):
                    self.refused(((kind, value), F, F))
                    self.refused(((kind, value), F))

    def test_nodes_that_are_no_pairs(self):
        for node in (["fact", "a"], ("fact",), ("fact", "a", 0), (), "fa", {"fact": "a"}, {0: "fact", 1: "a"}):
            self.refused((node,))
            self.refused((("all", 2), F, node))
        for value in all_sorts():
            if value != F:
                self.refused((value,))
                self.refused((("all", 2), value, F))
                self.refused((value, F, F))

    def test_values_that_are_no_nodes(self):
        for value in all_sorts():
            if value != (F,):
                self.refused(value)

    def test_properties(self):
        for nodes in small_nodes(6):
            promise = Promise(nodes)
            parts = parts_told(nodes)[0]
            self.assertEqual(promise.kind, nodes[0][0])
            self.assertEqual([part.nodes for part in promise.parts], parts)
            self.assertEqual(promise.depth, depth_told(nodes))
            words = {word for kind, word in nodes if kind in ("fact", "not")}
            self.assertEqual(promise.facts, tuple(sorted(words)))
            choices = [kind for kind, _ in nodes if kind == "mine" or kind == "yours"]
            self.assertEqual(promise.choices, len(choices))

    def test_properties_of_given_promises(self):
        self.assertEqual([COPY.kind, COPY.facts, COPY.choices, COPY.depth], ["some", ("a", "b"), 2, 3])
        self.assertEqual([part.text for part in COPY.parts], ["[a + b]", "[!a * !b]"])
        for promise in (Promise.sure(), Promise.never()):
            self.assertEqual([promise.facts, promise.parts, promise.choices, promise.depth], [(), (), 0, 1])
        self.assertEqual([Promise.sure().kind, Promise.never().kind], ["yes", "no"])
        for word, kind in (("a", "fact"), ("!a", "not")):
            promise = Promise.read(word)
            self.assertEqual([promise.kind, promise.parts, promise.facts], [kind, (), ("a",)])
        self.assertEqual(Promise.read("[zed * !b * ax * b]").facts, ("ax", "b", "zed"))
        self.assertIs(type(COPY.parts), tuple)

    def test_properties_cannot_be_set(self):
        for name in ("nodes", "text", "kind", "parts", "facts", "choices", "depth"):
            with self.assertRaises(AttributeError):
                setattr(Promise.sure(), name, ())

    def test_class_methods_of_plain_promises(self):
        self.assertEqual(Promise.fact("rain").nodes, (("fact", "rain"),))
        self.assertEqual(Promise.sure().nodes, (("yes", 0),))
        self.assertEqual(Promise.never().nodes, (("no", 0),))

    def test_every_text_of_the_samples_has_its_nodes(self):
        self.assertEqual(Promise.read(TEXTS[-1]).nodes, (("all", 2), ("some", 2), F, F, ("yes", 0)))


if __name__ == "__main__":
    unittest.main()
