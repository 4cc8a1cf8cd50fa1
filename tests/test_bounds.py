"""[0.8]: each bound by itself, just met and just passed, on each way to a promise."""

import unittest

from eitherhand.base.promises import KINDS, Promise
from eitherhand.errors import InvalidPromise, ParseError
from samples import A, chain, of_all

THREE = A & A
FOUR = of_all(A, A, A)
TWENTY = of_all(THREE, THREE, of_all(THREE, THREE, THREE, THREE))
NINETEEN = FOUR & of_all(THREE, THREE, THREE, FOUR)
MINE, YOURS = A + A, A * A
FOUR_CHOICES = of_all(MINE, YOURS, YOURS, MINE)
FIVE_CHOICES = of_all(MINE & YOURS, MINE, YOURS, MINE)
SIX_CHOICES = of_all(of_all(MINE, YOURS, YOURS), MINE, YOURS, MINE)
THREE_FACTS = Promise.read("(a & !b & c)")
MORE_FACTS = Promise.read("(d & e & !f)")
FOUR_FACTS = Promise.read("(d & e & !f & g)")

# Two parts with which a node `all` just meets a bound, and two with which it just passes it.
PAIRS = {
    "nodes": ((TWENTY, NINETEEN), (TWENTY, TWENTY)),
    "choices": ((FIVE_CHOICES, FIVE_CHOICES), (FIVE_CHOICES, SIX_CHOICES)),
    "facts": ((THREE_FACTS, MORE_FACTS), (THREE_FACTS, FOUR_FACTS)),
    "depth": ((chain(7), A), (chain(8), A)),
}


def told(kind, pair):
    """The nodes of a node of a kind over two promises."""
    return ((kind, 2),) + pair[0].nodes + pair[1].nodes


class BoundsTest(unittest.TestCase):
    def test_the_pairs_are_just_at_the_bounds(self):
        met = {name: Promise(told("all", pair[0])) for name, pair in PAIRS.items()}
        self.assertEqual(len(met["nodes"]), 40)
        self.assertEqual(met["choices"].choices, 10)
        self.assertEqual(len(met["facts"].facts), 6)
        self.assertEqual(met["depth"].depth, 8)
        over = {name: told("all", pair[1]) for name, pair in PAIRS.items()}
        self.assertEqual(len(over["nodes"]), 41)
        for name in ("choices", "facts", "depth"):
            self.assertLessEqual(len(over[name]), 40)
        choices = [kind for kind, _ in over["choices"] if kind in ("mine", "yours")]
        self.assertEqual(len(choices), 11)
        self.assertEqual(len({word for kind, word in over["facts"] if kind in ("fact", "not")}), 7)

    def test_nodes(self):
        for met, over in PAIRS.values():
            self.assertEqual(Promise(told("all", met)).nodes, told("all", met))
            with self.assertRaises(InvalidPromise):
                Promise(told("all", over))

    def test_texts(self):
        for met, over in PAIRS.values():
            text = f"({met[0]} & {met[1]})"
            self.assertEqual(Promise.read(text).nodes, told("all", met))
            with self.assertRaises(ParseError) as caught:
                Promise.read(f"({over[0]} & {over[1]})")
            self.assertIsNone(caught.exception.line)

    def test_of(self):
        for met, over in PAIRS.values():
            self.assertEqual(Promise.of("all", met).nodes, told("all", met))
            with self.assertRaises(InvalidPromise):
                Promise.of("all", over)

    def test_operators(self):
        for name, (met, over) in PAIRS.items():
            self.assertEqual((met[0] & met[1]).nodes, told("all", met))
            self.assertEqual((met[0] | met[1]).nodes, told("some", met))
            with self.assertRaises(InvalidPromise):
                over[0] & over[1]
            with self.assertRaises(InvalidPromise):
                over[0] | over[1]
            if name == "choices":
                met, over = (FIVE_CHOICES, FOUR_CHOICES), met
            self.assertEqual((met[0] + met[1]).nodes, told("mine", met))
            self.assertEqual((met[0] * met[1]).nodes, told("yours", met))
            with self.assertRaises(InvalidPromise):
                over[0] + over[1]
            with self.assertRaises(InvalidPromise):
                over[0] * over[1]

    def test_put(self):
        for name, (met, over) in PAIRS.items():
            for sign in (1, -1):
                word = Promise.fact("z") if sign == 1 else -Promise.fact("z")
                parts = (met[0] if sign == 1 else -met[0], met[1])
                self.assertEqual((word & met[1]).put("z", met[0]).nodes, told("all", parts))
                before = word & over[1]
                text = before.text
                with self.assertRaises(InvalidPromise):
                    before.put("z", over[0])
                self.assertEqual(before.text, text)

    def test_with_part(self):
        for met, over in PAIRS.values():
            self.assertEqual((A & met[1]).with_part(0, met[0]).nodes, told("all", met))
            self.assertEqual((met[0] & A).with_part(1, met[1]).nodes, told("all", met))
            before = A & over[1]
            text = before.text
            with self.assertRaises(InvalidPromise):
                before.with_part(0, over[0])
            self.assertEqual(before.text, text)

    def test_far_beyond_the_bounds(self):
        full = Promise.of("all", PAIRS["nodes"][0])
        for kind in KINDS:
            with self.assertRaises(InvalidPromise):
                Promise.of(kind, (full, full, full, full))
        with self.assertRaises(InvalidPromise):
            full.put("a", full)
        with self.assertRaises(InvalidPromise):
            Promise((("all", 2),) * 4000 + (("yes", 0),) * 4001)
        with self.assertRaises(ParseError):
            Promise.read("(" * 3000 + "a" + " & a)" * 1000)

    def test_bounds_are_kept_when_turned_round_or_renamed(self):
        for met, _ in PAIRS.values():
            promise = Promise(told("all", met))
            self.assertEqual(-(-promise), promise)
            self.assertEqual(promise.renamed({word: word for word in promise.facts}), promise)


if __name__ == "__main__":
    unittest.main()
