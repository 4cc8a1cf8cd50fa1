"""The class `Play`."""

import random
import unittest

from eitherhand.base.promises import Promise
from eitherhand.errors import (
    InvalidCall, InvalidNumber, InvalidOperation, InvalidPromise, InvalidWorld, NothingToUndo,
)
from eitherhand.play.runs import Play, is_move, moves_at, played, winner
from samples import A, COPY, TEXTS, TWICE, all_sorts, equal_ones, no_promises, varied
import reference

SOME = [*[Promise.read(text) for text in TEXTS], *varied(8, 40, facts="abc")]
FIRST, THEN = ("caller", (1,), 0), ("keeper", (0,), 1)


def begun():
    """A play of which a move is made."""
    play = Play(COPY)
    play.call(*FIRST)
    return play


class PlayTest(unittest.TestCase):
    def refused(self, error, play, call):
        """The error of a call, behind which nothing is changed."""
        before = (play.promise, play.position, play.so_far, len(play), str(play))
        with self.assertRaises(error) as caught:
            call()
        self.assertEqual((play.promise, play.position, play.so_far, len(play), str(play)), before)
        return caught.exception

    def test_random_plays(self):
        rng = random.Random(9)
        for promise in SOME:
            play = Play(promise)
            run = ()
            self.assertEqual([play.promise, play.position, play.so_far], [promise, promise, ()])
            while moves_at(play.position, "caller") + moves_at(play.position, "keeper"):
                self.assertIs(play.is_over(), False)
                move = rng.choice(moves_at(play.position, "caller") + moves_at(play.position, "keeper"))
                expected = reference.moves(play.position)[move]
                self.assertEqual(play.call(*move), expected)
                run += (move,)
                self.judge(play, promise, run)
            self.assertIs(play.is_over(), True)
            for many in (0, 1, 0, 2, len(run) - 3):
                if 0 <= many <= len(play):
                    run = run[:len(run) - many]
                    self.assertEqual(play.back(many), played(promise, run))
                    self.judge(play, promise, run)
            self.assertEqual(play.back(len(play)), promise)
            self.judge(play, promise, ())

    def judge(self, play, promise, run):
        """What a play tells behind a run."""
        self.assertEqual([play.promise, play.position, play.so_far], [promise, played(promise, run), run])
        self.assertEqual([len(play), tuple(play)], [len(run), run])
        self.assertEqual(str(play), f"{played(promise, run).text}, {len(run)} moves")
        for hand in ("caller", "keeper"):
            self.assertEqual(play.moves(hand), moves_at(play.position, hand))
        for world in reference.worlds(promise):
            self.assertEqual(play.leader(world), winner(promise, run, world))
        self.assertTrue(all(move in play for move in run))

    def test_calls_that_are_not_there(self):
        play = begun()
        for hand, place, index in [
            FIRST, ("keeper", (1,), 0), ("caller", (0,), 0), ("keeper", (0,), 2), ("keeper", (0,), True), ("keeper", (0,), -1),
            ("keeper", (False,), 0), ("keeper", [0], 0), ("keeper", 0, 0), ("Keeper", (0,), 0), ("keeper", (), 0),
            ("keeper", (0, 0), 0), ("keeper", (0,) * 9, 0), ("keeper", (2,), 0), ("keeper", (0,), 10 ** 70), (None, None, None),
        ]:
            self.refused(InvalidCall, play, lambda: play.call(hand, place, index))
        for value in all_sorts():
            if not isinstance(value, str) or value != "keeper":
                self.refused(InvalidCall, play, lambda: play.call(value, (0,), 0))
            self.refused(InvalidCall, play, lambda: play.call("keeper", value, 0))
            if type(value) is not int or value not in (0, 1):
                self.refused(InvalidCall, play, lambda: play.call("keeper", (0,), value))
        self.assertEqual(play.call(hand="keeper", place=(0,), index=0).text, "(a | !a)")

    def test_back(self):
        play = begun()
        self.refused(NothingToUndo, play, lambda: play.back(2))
        play.call(*THEN)
        self.assertEqual(self.refused(NothingToUndo, play, lambda: play.back(3)).amount, 3)
        self.assertEqual(self.refused(NothingToUndo, play, lambda: play.back(10 ** 59)).amount, 10 ** 59)
        for value in [*all_sorts(), -1, True, False, 10 ** 60, -10 ** 60]:
            if type(value) is not int or value < 0 or value >= 10 ** 60:
                error = self.refused(InvalidNumber, play, lambda: play.back(value))
                self.assertEqual(error.number, value)
                self.assertIs(type(error.number), type(value))
        self.assertEqual(play.back(0).text, "(b | !a)")
        self.assertEqual(play.back(many=2), COPY)
        self.assertEqual(play.back(0), COPY)
        self.refused(NothingToUndo, play, lambda: play.back())
        play.call(*FIRST)
        self.assertEqual(play.back(), COPY)
        self.assertEqual(play.so_far, ())

    def test_behind_a_step_back_another_way(self):
        play = begun()
        play.back()
        self.assertEqual(play.call("caller", (1,), 1).text, "([a + b] | !b)")
        self.assertEqual(play.so_far, (("caller", (1,), 1),))

    def test_ten_moves(self):
        ten = Promise.of("all", (TWICE & TWICE, COPY, A + A, A * A))
        play = Play(ten)
        while not play.is_over():
            play.call(*(play.moves("caller") + play.moves("keeper"))[-1])
        self.assertEqual([len(play), play.position.choices], [10, 0])
        self.assertEqual(play.back(10), ten)

    def test_moves_refuse(self):
        play = begun()
        for value in [*all_sorts(), "mine"]:
            if not isinstance(value, str) or value not in ("keeper", "caller"):
                self.refused(InvalidOperation, play, lambda: play.moves(value))
        self.assertEqual(play.moves(hand="caller"), ())

    def test_leader_asks_for_worlds_of_the_promise_at_first(self):
        play = begun()
        play.call("keeper", (0,), 0)
        self.assertEqual(play.position.facts, ("a",))
        self.assertEqual([play.leader(world) for world in ((), ("a",), ("a", "b"), ("b",))], ["keeper"] * 4)
        self.assertEqual(begun().leader(world=("a", "b")), "caller")
        for value in [*all_sorts(), ("b", "a"), ("c",), ["a"], "a", ("a", True)]:
            if value not in ((), ("a",)):
                self.refused(InvalidWorld, play, lambda: play.leader(value))

    def test_membership(self):
        play = begun()
        self.assertIs(FIRST in play, True)
        for value in [*all_sorts(), THEN, list(FIRST), ("caller", [1], 0), ("caller", (True,), 0), ("caller", (1,), False)]:
            self.assertIs(value in play, False)
        play.back()
        self.assertIs(FIRST in play, False)

    def test_equality(self):
        self.assertEqual(begun(), begun())
        self.assertIs(begun() != begun(), False)
        self.assertNotEqual(begun(), Play(COPY))
        self.assertNotEqual(Play(A), Play(-A))
        one = begun()
        one.back()
        self.assertEqual(one, Play(COPY))
        two, three = Play(COPY), Play(COPY)
        for move in (FIRST, THEN):
            two.call(*move)
        for move in (THEN, FIRST):
            three.call(*move)
        self.assertEqual(two.position, three.position)
        self.assertNotEqual(two, three)
        for value in [*all_sorts(), COPY, ()]:
            self.assertIs(Play(TWICE) == value, False)
            self.assertIs(Play(TWICE) != value, True)
        self.assertEqual(equal_ones(begun()), ["Play"])

    def test_no_state_is_shared(self):
        one = begun()
        moves = iter(one)
        run = one.so_far
        one.call(*THEN)
        self.assertEqual([list(moves), run], [[FIRST], (FIRST,)])
        other = Play(one.promise)
        self.assertEqual([len(other), len(one)], [0, 2])
        self.assertTrue(all(is_move(move) for move in one))

    def test_properties_cannot_be_set(self):
        for name in ("promise", "position", "so_far"):
            with self.assertRaises(AttributeError):
                setattr(Play(COPY), name, ())

    def test_no_promise(self):
        for value in no_promises():
            with self.assertRaises(InvalidPromise):
                Play(value)


if __name__ == "__main__":
    unittest.main()
