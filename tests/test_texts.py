"""[0.9]: each promise has just one text, and nothing else is read."""

import unittest

from eitherhand.base.promises import Promise
from eitherhand.errors import ParseError
from samples import TEXTS, all_sorts, small_nodes

NEAR = (
    "", " ", "a ", " a", "a b", "a & b", "!", "!!a", "! a", "!yes", "!no", "!(a & b)", "()", "[]", "(a)",
    "[a]", "((a))", "(a &b)", "(a& b)", "(a  & b)", "( a & b)", "(a & b )", "(a & b) ", "(a & b))", "((a & b)",
    "(a & b", "a & b)", "[a & b]", "[a | b]", "(a + b)", "(a * b)", "(a & b]", "[a + b)", "(a & b | c)",
    "(a & & b)", "(a & )", "( & a)", "(& a)", "(a &)", "(a b)", "(a & b c)", "(a | b & c)", "[a + b * c]",
    "(a & b & c & d & e)", "[a * a * a * a * a]", "(a && b)", "(a,b)", "(a & b)\n", "\n(a & b)", "(a &\nb)",
    "(a\t& b)", "(A & b)", "(a & abcdefghi)", "(a & b)(a & b)", "(a & b) & c", "(a & b) c", "a(b & c)", "yes no",
    "Yes", "YES", "yes0", "a1", "(all & b) ", "{a & b}", ")a & b(", "(a & b)(", "][", ")", "(", "&", "+",
    "(a & (b | c)", "(a & b | c))", "((a & b) | c", "(a & -b)", "-a", "~a", "[a ! b]", "(a & [b + c)]", "fact a",
)


class TextsTest(unittest.TestCase):
    def refused(self, value):
        with self.assertRaises(ParseError, msg=str(value)[:80]) as caught:
            Promise.read(value)
        self.assertIsNone(caught.exception.line)

    def written(self, promise):
        """The text, written by recursion."""
        kind, told = promise.nodes[0]
        plain = {"fact": f"{told}", "not": f"!{told}", "yes": "yes", "no": "no"}
        if kind in plain:
            return plain[kind]
        signs = {"all": "(&)", "some": "(|)", "mine": "[+]", "yours": "[*]"}[kind]
        return signs[0] + f" {signs[1]} ".join([self.written(part) for part in promise.parts]) + signs[2]

    def test_samples(self):
        for text in TEXTS:
            promise = Promise.read(text)
            self.assertEqual([promise.text, str(promise), self.written(promise)], [text] * 3)
            self.assertEqual(Promise.read(text=text), promise)

    def test_the_nodes_of_texts(self):
        self.assertEqual(Promise.read("!rain").nodes, (("not", "rain"),))
        self.assertEqual(Promise.read("yes").nodes, (("yes", 0),))
        self.assertEqual(Promise.read("no").nodes, (("no", 0),))
        nodes = (("yours", 3), ("fact", "a"), ("some", 2), ("no", 0), ("not", "a"), ("yes", 0))
        self.assertEqual(Promise.read("[a * (no | !a) * yes]").nodes, nodes)
        nodes = (("mine", 2), ("all", 4), ("fact", "a"), ("fact", "b"), ("fact", "c"), ("fact", "d"), ("yes", 0))
        self.assertEqual(Promise.read("[(a & b & c & d) + yes]").nodes, nodes)

    def test_each_promise_has_a_text_of_its_own(self):
        texts = {}
        for nodes in small_nodes(6):
            promise = Promise(nodes)
            self.assertEqual(promise.text, self.written(promise))
            self.assertEqual(Promise.read(promise.text).nodes, nodes)
            texts[promise.text] = nodes
        self.assertEqual(len(texts), len(small_nodes(6)))

    def test_texts_near_one(self):
        for text in NEAR:
            self.refused(text)

    def test_every_small_change_of_a_text(self):
        read = 0
        for text in TEXTS:
            for at in range(len(text) + 1):
                near = [text[:at] + sign + text[at:] for sign in " ()[]&|+*!ay\n"]
                near += [text[:at] + sign + text[at + 1:] for sign in ("", *" ()[]&|+*!az")]
                for other in near:
                    read += self.reads_itself(other)
        self.assertGreater(read, 100)

    def reads_itself(self, text):
        """Whether a text is read, and then written just so."""
        try:
            promise = Promise.read(text)
        except ParseError as error:
            self.assertIsNone(error.line)
            return False
        self.assertEqual(self.written(promise), text)
        return True

    def test_blanks_and_brackets_are_never_free(self):
        for text in TEXTS:
            for at in range(len(text) + 1):
                self.refused(text[:at] + " " + text[at:])
                if at < len(text) and text[at] in " ()[]":
                    self.refused(text[:at] + text[at + 1:])
                    self.refused(text[:at] + text[at] + text[at:])
                if at < len(text) and text[at] in "()[]":
                    other = {"(": "[", ")": "]", "[": "(", "]": ")"}[text[at]]
                    self.refused(text[:at] + other + text[at + 1:])

    def test_values_that_are_no_texts(self):
        kept = ("a", "rain", "yes", "no", "all", "some", "mine", "yours", "fact", "not", "keeper", "caller", "(a & b)")
        for value in all_sorts():
            if isinstance(value, str) and value in kept:
                self.assertEqual(Promise.read(value).text, value)
            else:
                self.refused(value)


if __name__ == "__main__":
    unittest.main()
