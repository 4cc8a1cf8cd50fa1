"""[0.1], [0.5], [0.7]: integers, facts and hands."""

import unittest

from eitherhand.base import words
from eitherhand.base.words import is_fact, is_hand, is_index, is_integer, other_hand
from eitherhand.errors import InvalidOperation
from samples import all_sorts


class WordsTest(unittest.TestCase):
    def test_the_example(self):
        self.assertEqual(
            [is_fact("rain"), is_fact("Rain"), is_fact("yes"), is_fact(""), is_hand("keeper"),
             other_hand("keeper"), is_integer(True)],
            [True, False, False, False, True, "caller", False],
        )

    def test_the_constants(self):
        self.assertEqual(words.MAX_LETTERS, 8)
        self.assertEqual(words.HANDS, ("caller", "keeper"))

    def test_each_value_is_judged_by_true_or_false(self):
        for judge in (is_integer, is_fact, is_hand):
            for value in all_sorts():
                self.assertIn(judge(value), (True, False))
                self.assertIs(type(judge(value)), bool)

    def test_integers(self):
        for value in (0, 1, -1, 10 ** 59, 10 ** 60 - 1, -(10 ** 60 - 1), 10 ** 18):
            self.assertIs(is_integer(value), True, value)
        for value in (10 ** 60, -10 ** 60, 10 ** 99, -10 ** 99, True, False, None, "1", (1,), [1], {1: 1}):
            self.assertIs(is_integer(value), False, value)
        kept = [value for value in all_sorts() if is_integer(value)]
        self.assertEqual(kept, [0, 1, -1, 2, 3, 4, 5, 7, 40, 10 ** 59, 10 ** 60 - 1])

    def test_an_index(self):
        self.assertEqual([is_index(at, 2) for at in (-1, 0, 1, 2)], [False, True, True, False])
        self.assertEqual([is_index(at, 2) for at in (True, False, None, "0", (0,))], [False] * 5)

    def test_facts(self):
        for word in ("a", "z", "rain", "abcdefgh", "zzzzzzzz", "ye", "yesno", "n", "not", "all", "keeper"):
            self.assertIs(is_fact(word), True, word)
        for word in ("", "abcdefghi", "yes", "no", "a b", " a", "a ", "a\n", "\na", "!a", "a1", "A", "a_b"):
            self.assertIs(is_fact(word), False, word)
        for value in (None, True, 1, ("a",), ["a"], {"a": "a"}, "a" * 9000):
            self.assertIs(is_fact(value), False)

    def test_other_signs_at_each_place_of_a_word(self):
        signs = [chr(code) for code in range(32, 127) if not "a" <= chr(code) <= "z"]
        for sign in [*signs, "\n", "\u00e9", "\u00df", "\u0430", "\u00aa"]:
            for at in range(4):
                self.assertIs(is_fact("abc"[:at] + sign + "abc"[at:]), False, sign)
            self.assertIs(is_fact(sign), False)

    def test_every_letter_at_each_place(self):
        for code in range(ord("a"), ord("z") + 1):
            for at in range(8):
                self.assertIs(is_fact("bcdefgh"[:at] + chr(code) + "bcdefgh"[at:]), True)

    def test_hands(self):
        self.assertEqual([value for value in all_sorts() if is_hand(value)], ["keeper", "caller"])
        for value in ("Keeper", "keeper ", "", "call", "callers", "caller\n", ("keeper",), ["caller"]):
            self.assertIs(is_hand(value), False)

    def test_the_other_hand(self):
        self.assertEqual(other_hand("caller"), "keeper")
        self.assertEqual(other_hand("keeper"), "caller")
        for value in [*all_sorts(), "Caller", "", "keeper "]:
            if value not in ("caller", "keeper"):
                with self.assertRaises(InvalidOperation):
                    other_hand(value)


if __name__ == "__main__":
    unittest.main()
