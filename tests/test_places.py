"""[3.1], [3.2], [0.11]: places, calls and positions, judged by the reference and by given values."""

import itertools
import random
import unittest

from eitherhand.base import places
from eitherhand.base.places import (
    called, calls, calls_to, hand_of, is_call, is_position, part_at, positions, replaced, surface,
)
from eitherhand.base.promises import Promise
from eitherhand.errors import InvalidCall, InvalidOperation, InvalidPlace, InvalidPromise
from samples import A, COPY, TEXTS, TWICE, all_sorts, sorts_but, varied
import reference

SOME = [*[Promise.read(text) for text in TEXTS], *varied(3, 60)]
DEEP = Promise.read("(a & [(b | [c + d]) * e] & ((a | [b + (c & !d) + [a * b]]) & yes))")


def near_places(place):
    """Values near a place that are none of the promise whose it is, or of a plain part."""
    return [list(place), place + (True,), place + (False,), place + (-1,), place + (4,), place + ("0",), place + (None,),
            place + ((0,),), place + (10 ** 60,), (place,), str(place)]


class PlacesTest(unittest.TestCase):
    def test_the_constant(self):
        self.assertEqual(places.MAX_POSITIONS, 20000)

    def test_all_places_and_what_stands_there(self):
        for promise in SOME:
            found = surface(promise)
            self.assertIs(type(found), tuple)
            self.assertEqual(list(found), reference.surface(promise))
            self.assertEqual(list(found), sorted(set(found)))
            for place in found:
                self.assertEqual(part_at(promise, place), reference.part(promise, place))
            self.assertEqual(part_at(promise, ()), promise)

    def test_given_places(self):
        self.assertEqual(surface(A), ((),))
        self.assertEqual(surface(Promise.read("[a + (b & c)]")), ((),))
        self.assertEqual(surface(DEEP), ((), (0,), (1,), (2,), (2, 0), (2, 0, 0), (2, 0, 1), (2, 1)))
        texts = [part_at(DEEP, place).text for place in surface(DEEP)[1:]]
        self.assertEqual(texts, [
            "a", "[(b | [c + d]) * e]", "((a | [b + (c & !d) + [a * b]]) & yes)", "(a | [b + (c & !d) + [a * b]])",
            "a", "[b + (c & !d) + [a * b]]", "yes",
        ])

    def test_what_is_no_place(self):
        for promise in SOME:
            known = set(surface(promise))
            for value in [*all_sorts(), (0, 0, 0, 0, 0, 0, 0, 0, 0), (3,), (2,), (1, 3), (0, 2)]:
                if not (isinstance(value, tuple) and value in [*known]) or any(type(at) is bool for at in value):
                    with self.assertRaises(InvalidPlace):
                        part_at(promise, value)
            for place in known:
                for value in near_places(place):
                    with self.assertRaises(InvalidPlace):
                        part_at(promise, value)
        # A place that leads through a choice, or beyond a plain part.
        for place in ((1, 0), (1, 0, 0), (2, 0, 1, 0), (0, 0), (2, 1, 0), (2, 2), (3,), (-1,), (2, -1), (True,), (1.0,)):
            if place != (1.0,):
                with self.assertRaises(InvalidPlace):
                    part_at(DEEP, place)

    def test_replaced(self):
        for promise in SOME[:40]:
            for place in surface(promise):
                for other in (A, COPY, Promise.sure()):
                    expected = reference.exchanged(promise, place, other)
                    self.assertEqual(replaced(promise, place, other), expected)
                self.assertEqual(replaced(promise, place, part_at(promise, place)), promise)

    def test_replaced_just_at_each_bound_and_beyond(self):
        three, four = Promise.of("all", (A,) * 3), Promise.of("all", (A,) * 4)
        deep = A & (A & (A & (A & (A & A))))
        wide = Promise.of("all", (Promise.of("all", (four,) * 4), Promise.of("all", (four, four, A, A)), A, A))
        six = Promise.of("all", (A + A, A * A, (A + A) & (A * A), (A + A) & (A * A)))
        picks = Promise.of("all", (A + A, A * A, A + A, A))
        fits = {
            "nodes": (wide, three, four),
            "choices": (six & A, (A + A) & picks, (A * A) & ((A + A) & picks)),
            "facts": (Promise.read("(a & b & c)"), Promise.read("(d & e & f & g)"), Promise.read("(d & e & (f & g & h))")),
            "depth": (A & A, deep, A & deep),
        }
        for name, (promise, just, over) in fits.items():
            at = surface(promise)[-1]
            made = replaced(promise, at, just)
            self.assertEqual(part_at(made, at), just, name)
            before = promise.nodes
            if name != "depth":
                with self.assertRaises(InvalidPromise, msg=name):
                    replaced(promise, at, over)
            self.assertEqual(promise.nodes, before)
        self.assertEqual(len(replaced(wide, (3,), three)), 40)
        self.assertEqual(replaced(six & A, (1,), (A + A) & picks).choices, 10)
        self.assertEqual(replaced(A & A, (1,), A & deep).depth, 8)
        with self.assertRaises(InvalidPromise):
            replaced(A & (A & A), (1, 1), A & deep)

    def test_calls_and_what_comes_of_them(self):
        for promise in SOME:
            moves = reference.moves(promise)
            for hand in ("caller", "keeper"):
                found = calls(promise, hand)
                self.assertIs(type(found), tuple)
                self.assertEqual(found, tuple(sorted((place, at) for one, place, at in moves if one == hand)))
            for (hand, place, at), behind in moves.items():
                self.assertIs(is_call(promise, (place, at)), True)
                self.assertEqual(hand_of(promise, (place, at)), hand)
                self.assertEqual(called(promise, (place, at)), behind)

    def test_given_calls(self):
        self.assertEqual(calls(DEEP, "caller"), (((1,), 0), ((1,), 1)))
        self.assertEqual(calls(DEEP, "keeper"), (((2, 0, 1), 0), ((2, 0, 1), 1), ((2, 0, 1), 2)))
        self.assertEqual(called(DEEP, ((1,), 0)).text, DEEP.text.replace("[(b | [c + d]) * e]", "(b | [c + d])"))
        self.assertEqual(calls(called(DEEP, ((1,), 0)), "keeper")[:2], (((1, 1), 0), ((1, 1), 1)))
        self.assertEqual([calls(A, hand) for hand in ("caller", "keeper")], [(), ()])

    def test_what_is_no_call(self):
        for promise in SOME:
            known = {(place, at) for _, place, at in reference.moves(promise)}
            near = [*all_sorts()]
            for place in surface(promise):
                near += [(one, 0) for one in near_places(place)]
                near += [(place, at) for at in (-1, 4, True, False, None, "0", (0,), [0], 10 ** 60)]
                near += [(place,), (place, 0, 0), [place, 0], ("keeper", place, 0), (list(place), 0), (0, place)]
                near += [(place, at) for at in range(5) if (place, at) not in known]
            for value in near:
                self.assertIs(is_call(promise, value), False, value)
                for function in (hand_of, called):
                    with self.assertRaises(InvalidCall):
                        function(promise, value)

    def test_positions_each_once_in_order(self):
        for promise in SOME:
            found = positions(promise)
            self.assertIs(type(found), tuple)
            self.assertEqual(list(found), sorted(reference.game(promise.text)))
            for text in found:
                self.assertIs(is_position(promise, text), True)

    def test_equal_positions_are_one(self):
        self.assertEqual(positions(Promise.read("[a + a]")), ("[a + a]", "a"))
        self.assertEqual(positions(Promise.read("[a * [a + b] * b]")), ("[a * [a + b] * b]", "[a + b]", "a", "b"))
        self.assertEqual(len(positions(Promise.read("([a + a] & [[a * b] + [a * b] + b])"))), 8)
        self.assertEqual(positions(A), ("a",))

    def test_calls_lead_to_each_position(self):
        for promise in SOME:
            for text in positions(promise):
                way = calls_to(promise, text)
                self.assertIs(type(way), tuple)
                position = promise
                for hand, place, at in way:
                    self.assertEqual(hand_of(position, (place, at)), hand)
                    position = called(position, (place, at))
                self.assertEqual(position.text, text)
            self.assertEqual(calls_to(promise, promise.text), ())

    def test_strings_near_positions(self):
        for promise in SOME[:30]:
            known = set(positions(promise))
            text = promise.text
            near = [text[:at] + sign + text[at + gap:] for text in known for at in range(len(text) + 1)
                    for sign in ("", " ", "a", "!", "(", "[") for gap in (0, 1)]
            near = random.Random(5).sample(near, min(len(near), 150))
            for value in [*all_sorts(), *near, Promise.read(text), (text,), [text]]:
                if not isinstance(value, str) or value not in known:
                    self.assertIs(is_position(promise, value), False)
                    if not isinstance(value, str) or len(value) < 12:
                        with self.assertRaises(InvalidOperation):
                            calls_to(promise, value)

    def test_parts_and_turned_positions_are_none(self):
        for text in ("[!a * !b]", "a", "[a + b]", "(a | !a) ", "([!a * !b] & [a + b])", "(b | c)"):
            self.assertIs(is_position(COPY, text), False)
        self.assertIs(is_position(COPY, "(b | !a)"), True)

    def test_calls_at_different_places_in_any_order(self):
        rng = random.Random(7)
        for promise in [TWICE, COPY, *varied(11, 40, most=6)]:
            there = [(place, at) for _, place, at in reference.moves(promise)]
            one_each = []
            for place, group in itertools.groupby(there, lambda call: call[0]):
                one_each.append(rng.choice(list(group)))
            ends = set()
            for order in itertools.islice(itertools.permutations(one_each), 24):
                position = promise
                for call in order:
                    position = called(position, call)
                ends.add(position.text)
            self.assertEqual(len(ends), 1)

    def test_nothing_is_changed(self):
        for promise in SOME:
            before = promise.nodes
            for call in [*calls(promise, "caller"), *calls(promise, "keeper")]:
                called(promise, call)
            positions(promise)
            self.assertEqual(promise.nodes, before)
            self.assertEqual(surface(promise), surface(Promise(before)))

    def test_the_values_of_stage_one_and_these_are_judged_by_true_or_false(self):
        for value in [*sorts_but(), ((), 0), ((0,), True)]:
            for judge in (is_call, is_position):
                for promise in (COPY, A):
                    self.assertIs(type(judge(promise, value)), bool)
                    self.assertIs(judge(promise, value), judge(promise, value))


if __name__ == "__main__":
    unittest.main()
