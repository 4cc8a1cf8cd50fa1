"""The class `Surface`."""

import unittest

from eitherhand.base.places import Surface, called, calls, surface
from eitherhand.base.promises import Promise
from eitherhand.errors import InvalidCall, InvalidOperation, InvalidPlace, InvalidPromise
from samples import A, COPY, TEXTS, TWICE, all_sorts, no_promises, varied
import reference

SOME = [*[Promise.read(text) for text in TEXTS], *varied(4, 60)]


class SurfaceTest(unittest.TestCase):
    def test_properties(self):
        for promise in SOME:
            one = Surface(promise)
            found = reference.surface(promise)
            kinds = {place: reference.part(promise, place).kind for place in found}
            self.assertEqual(one.promise, promise)
            self.assertEqual(one.places, tuple(found))
            self.assertEqual(one.mine, tuple(place for place in found if kinds[place] == "mine"))
            self.assertEqual(one.yours, tuple(place for place in found if kinds[place] == "yours"))
            plain = tuple(place for place in found if kinds[place] in ("fact", "not", "yes", "no"))
            self.assertEqual(one.plain, plain)
            for name in ("places", "mine", "yours", "plain"):
                self.assertIs(type(getattr(one, name)), tuple)

    def test_properties_cannot_be_set(self):
        for name in ("promise", "places", "mine", "yours", "plain"):
            with self.assertRaises(AttributeError):
                setattr(Surface(COPY), name, ())

    def test_given_properties(self):
        one = Surface(Promise.read("(a & ([b + c] | yes) & [(a & b) * no] & !b)"))
        self.assertEqual([one.mine, one.yours, one.plain], [((1, 0),), ((2,),), ((0,), (1, 1), (3,))])
        self.assertEqual(str(one), "7 places, 1 mine, 1 yours")
        self.assertEqual(one.places, ((), (0,), (1,), (1, 0), (1, 1), (2,), (3,)))
        plain = Surface(A)
        self.assertEqual([plain.places, plain.mine, plain.yours, plain.plain], [((),), (), (), ((),)])

    def test_behind(self):
        for promise in SOME:
            one = Surface(promise)
            for hand in ("caller", "keeper"):
                for call in calls(promise, hand):
                    self.assertEqual(one.behind(call), Surface(called(promise, call)))
                    self.assertEqual(one.behind(call=call).places, surface(called(promise, call)))
            self.assertEqual(one.promise, promise)

    def test_behind_refuses(self):
        for value in [*all_sorts(), ((0,), 2), ((0,), True), ((True,), 0), ((), 0), ((0, 0), 0), [(0,), 0], ((0,), -1)]:
            with self.assertRaises(InvalidCall):
                Surface(COPY).behind(value)

    def test_moves(self):
        for promise in SOME:
            for hand in ("caller", "keeper"):
                found = Surface(promise).moves(hand)
                self.assertIs(type(found), dict)
                expected = {
                    (place, at): behind for (one, place, at), behind in reference.moves(promise).items() if one == hand
                }
                self.assertEqual(list(found), sorted(expected))
                self.assertEqual(found, expected)
                self.assertEqual(Surface(promise).moves(hand=hand), expected)

    def test_moves_share_no_state(self):
        one = Surface(COPY)
        one.moves("keeper").clear()
        self.assertEqual(len(one.moves("keeper")), 2)

    def test_moves_refuses(self):
        for value in [*all_sorts(), "mine", "Keeper"]:
            if not isinstance(value, str) or value not in ("keeper", "caller"):
                with self.assertRaises(InvalidOperation):
                    Surface(COPY).moves(value)

    def test_is_over(self):
        for promise in SOME:
            self.assertIs(Surface(promise).is_over(), reference.moves(promise) == {})
        self.assertIs(Surface(Promise.read("(a & (yes | !b))")).is_over(), True)
        self.assertIs(Surface(Promise.read("(a & (yes | [!b * a]))")).is_over(), False)

    def test_length_and_iteration(self):
        for promise in SOME:
            one = Surface(promise)
            self.assertEqual(len(one), len(surface(promise)))
            self.assertEqual(tuple(one), surface(promise))
            self.assertEqual(list(one), [place for place in one])

    def test_membership_and_indices(self):
        for promise in SOME:
            one = Surface(promise)
            for place in surface(promise):
                self.assertIs(place in one, True)
                self.assertEqual(one[place], reference.part(promise, place))
                for value in (list(place), place + (True,), place + (-1,), place + (4,), (place,), str(place)):
                    self.outside(one, value)
            for value in all_sorts():
                if not isinstance(value, tuple) or value != ():
                    self.outside(one, value)
        for value in ((True,), (False,), (0, 0), (2,), [0], 0, (-1,), (1, 0, 0, 0)):
            self.outside(Surface(COPY), value)
        for value in ((True,), (1, True), (1, False), (1, 2), (-1, 0), [1, 0]):
            self.outside(Surface(TWICE), value)

    def outside(self, one, value):
        self.assertIs(value in one, False, value)
        with self.assertRaises(InvalidPlace):
            one[value]

    def test_equality(self):
        for promise in SOME[:30]:
            for other in SOME[:30]:
                self.assertIs(Surface(promise) == Surface(other), promise == other)
                self.assertIs(Surface(promise) != Surface(other), promise != other)
        for value in [*all_sorts(), COPY, COPY.text, surface(TWICE)]:
            self.assertIs(Surface(TWICE) == value, False)
            self.assertIs(Surface(TWICE) != value, True)

    def test_text(self):
        self.assertEqual(str(Surface(TWICE)), "5 places, 1 mine, 2 yours")
        self.assertEqual(str(Surface(A)), "1 places, 0 mine, 0 yours")
        for promise in SOME:
            one = Surface(promise)
            self.assertEqual(str(one), f"{len(one)} places, {len(one.mine)} mine, {len(one.yours)} yours")

    def test_no_promise(self):
        for value in no_promises():
            with self.assertRaises(InvalidPromise):
                Surface(value)


if __name__ == "__main__":
    unittest.main()
