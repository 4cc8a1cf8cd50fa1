"""The examples of the document, as they stand there."""

import unittest

from eitherhand.base.promises import Promise
from eitherhand.errors import ParseError


class ExamplesTest(unittest.TestCase):
    def test_promises(self):
        copy = Promise.read("([a + b] | [!a * !b])")
        self.assertEqual(
            [copy.nodes[:4], copy.facts, copy.choices, copy.depth, str(-copy), copy.parts[1] == -copy.parts[0]],
            [(("some", 2), ("mine", 2), ("fact", "a"), ("fact", "b")), ("a", "b"), 2, 3, "([!a * !b] & [a + b])", True],
        )
        a = Promise.fact("a")
        self.assertEqual(
            [str(a + -a), str((a | a) & Promise.sure()), str(copy.put("b", a * a)),
             str(copy.renamed({"a": "c", "b": "c"})), a in copy, copy.many("mine"), Promise.of("all", (a, a, a)).depth],
            ["[a + !a]", "((a | a) & yes)", "([a + [a * a]] | [!a * [!a + !a]])", "([c + c] | [!c * !c])", True, 1, 2],
        )
        with self.assertRaises(ParseError):
            Promise.read("a & b")

    def test_the_promises_of_most_examples(self):
        for text in ("[a + !a]", "([a + b] | [!a * !b])", "([!b + !c] | ([b * c] & [b * c]))"):
            self.assertEqual(str(Promise.read(text)), text)


if __name__ == "__main__":
    unittest.main()
