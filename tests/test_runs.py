"""[5.1] to [5.3]: moves, runs, winners and delays."""

import itertools
import random
import unittest

from eitherhand.base.promises import Promise
from eitherhand.errors import InvalidNumber, InvalidOperation, InvalidPromise, InvalidRun, InvalidWorld, TooMany
from eitherhand.play import runs
from eitherhand.play.runs import (
    count_runs, delays, first_wrong, is_delay, is_move, is_run, moves_at, played, sound_runs, winner,
)
from samples import A, COPY, TEXTS, TWICE, all_sorts, no_promises, varied
import reference

SOME = [*[Promise.read(text) for text in TEXTS], *varied(7, 40, most=4)]
FIRST = ("caller", (1,), 0)
THEN = ("keeper", (0,), 1)
GOOD = (
    ("keeper", (), 0), ("caller", (3, 0, 2), 3), ("keeper", (0,) * 8, 1), ("caller", (3,) * 8, 3), ("caller", (0,) * 7, 2),
)
BAD = (
    ("keeper", (0,) * 9, 1), ("keeper", (4,), 0), ("keeper", (0, 4), 0), ("keeper", (), 4), ("keeper", (True,), 0),
    ("keeper", (0,), True), ("keeper", (0,), False), ("keeper", (-1,), 0), ("keeper", (0,), -1), ("keeper", [0], 0),
    ["keeper", (0,), 0], ("keeper", (0,)), ("keeper", (0,), 0, 0), ("Keeper", (0,), 0), ("mine", (), 0), ((0,), 0),
    ("keeper", ((0,),), 0), ("keeper", ("0",), 0), ("keeper", (0,), "0"), ("keeper", (0,), None), ("keeper", None, 0),
    (None, (0,), 0), (("keeper",), (0,), 0), ("keeper", 0, 0), ("keeper", (0,), (0,)), ("keeper", (0,), 10 ** 60), "keeper",
)


def interleavings(one, other):
    """All ways to put two tuples into one, each in its own order."""
    for at in itertools.combinations(range(len(one) + len(other)), len(one)):
        left, right = list(one), list(other)
        yield tuple(left.pop(0) if now in at else right.pop(0) for now in range(len(one) + len(other)))


def ahead(hand, run):
    """How many moves of the other hand stand ahead of each move of a hand."""
    return [sum(move[0] != hand for move in run[:at]) for at, move in enumerate(run) if move[0] == hand]


def all_delays(hand, run):
    """All delays, sorted."""
    own = [move for move in run if move[0] == hand]
    others = [move for move in run if move[0] != hand]
    return sorted(
        one for one in set(interleavings(own, others))
        if all(now >= then for now, then in zip(ahead(hand, one), ahead(hand, run)))
    )


def random_run(rng, many):
    """A run that need not be sound."""
    return tuple((rng.choice(("keeper", "caller")), (rng.randrange(3),), rng.randrange(4)) for _ in range(many))


class MovesTest(unittest.TestCase):
    def test_the_constants(self):
        self.assertEqual(runs.MAX_MOVES, 12)
        self.assertEqual(runs.HANDS, ("caller", "keeper"))

    def test_moves(self):
        for value in GOOD:
            self.assertIs(is_move(value), True, value)
        for value in [*BAD, *all_sorts()]:
            self.assertIs(is_move(value), False, value)

    def test_runs(self):
        for many in range(13):
            self.assertIs(is_run((GOOD * 3)[:many]), True)
        self.assertIs(is_run((GOOD * 3)[:13]), False)
        for value in BAD:
            self.assertIs(is_run((value,)), False)
            self.assertIs(is_run((GOOD[0], value)), False)
        for value in [*all_sorts(), list(GOOD), GOOD[0], (GOOD,)]:
            if value != ():
                self.assertIs(is_run(value), False)

    def test_moves_that_are_there(self):
        for promise in SOME:
            for hand in ("caller", "keeper"):
                found = moves_at(promise, hand)
                self.assertIs(type(found), tuple)
                self.assertEqual(list(found), [move for move in reference.moves(promise) if move[0] == hand])

    def test_first_wrong_and_played(self):
        for promise in SOME:
            for run in reference.sound_runs(promise.text)[:60]:
                self.assertIsNone(first_wrong(promise, run))
                self.assertEqual(played(promise, run).text, reference.end_of(promise.text, run))
                behind = reference.game(promise.text)[reference.end_of(promise.text, run)]
                for wrong in [move for move in (*GOOD, FIRST, THEN) if move not in behind]:
                    longer = (*run, wrong, *run[:12 - len(run) - 1])
                    self.assertEqual(first_wrong(promise, longer), len(run))
                    with self.assertRaises(InvalidRun):
                        played(promise, longer)

    def test_the_first_wrong_move_of_either_hand(self):
        self.assertEqual(first_wrong(COPY, (("caller", (0,), 0),)), 0)
        self.assertEqual(first_wrong(COPY, (("keeper", (1,), 0),)), 0)
        self.assertEqual(first_wrong(COPY, (FIRST, ("keeper", (1,), 0), ("caller", (0,), 0))), 1)
        self.assertEqual(first_wrong(COPY, (FIRST, FIRST)), 1)
        self.assertEqual(first_wrong(COPY, (THEN, FIRST, ("keeper", (), 0))), 2)
        self.assertEqual(first_wrong(A, (FIRST,)), 0)
        self.assertIsNone(first_wrong(A, ()))

    def test_winners(self):
        for promise in SOME:
            for run in reference.sound_runs(promise.text)[:60]:
                end = Promise.read(reference.end_of(promise.text, run))
                for world in reference.worlds(promise):
                    expected = "keeper" if reference.holds(end, world) else "caller"
                    self.assertEqual(winner(promise, run, world), expected)
                    for wrong, other in (("keeper", "caller"), ("caller", "keeper")):
                        longer = (*run, (wrong, (3, 3, 3), 3))
                        self.assertEqual(winner(promise, longer, world), other)
                        self.assertEqual(winner(promise, (*longer, (other, (3, 3, 3), 3)), world), other)

    def test_a_run_of_twelve_moves_can_be_asked(self):
        run = (FIRST, THEN, *GOOD, *GOOD)
        self.assertEqual([len(run), first_wrong(COPY, run), winner(COPY, run, ())], [12, 2, "caller"])
        self.assertEqual(winner(COPY, (FIRST, *GOOD[1:], *GOOD), ()), "keeper")

    def test_worlds_of_the_promise_at_first(self):
        run = (("keeper", (0,), 0), ("caller", (1,), 0))
        self.assertEqual(played(COPY, run).facts, ("a",))
        self.assertEqual([winner(COPY, run[:1], world) for world in [(), ("a",), ("a", "b"), ("b",)]], ["keeper"] * 4)
        one = Promise.read("([a + b] & c)")
        self.assertEqual(winner(one, (("keeper", (0,), 0),), ("a", "b", "c")), "keeper")
        for value in [*all_sorts(), ("c", "a"), ("a", "a"), ("d",), ["a"], "a", ("a", 1)]:
            if value != () and value != ("a",):
                for run in ((), (("keeper", (0,), 0),), (FIRST,)):
                    with self.assertRaises(InvalidWorld):
                        winner(one, run, value)

    def test_no_runs(self):
        values = [*all_sorts(), (GOOD * 3)[:13], [FIRST], FIRST, *[(value,) for value in BAD]]
        for value in values:
            if value != ():
                for function in (first_wrong, played, lambda one, run: winner(one, run, 3)):
                    with self.assertRaises(InvalidRun):
                        function(COPY, value)

    def test_no_promise(self):
        for value in no_promises():
            for function in (lambda one: moves_at(one, 3), lambda one: first_wrong(one, 3), lambda one: played(one, 3),
                             lambda one: winner(one, 3, 3), lambda one: next(sound_runs(one, 13)), count_runs):
                with self.assertRaises(InvalidPromise):
                    function(value)


class DelaysTest(unittest.TestCase):
    def test_delays_in_order_each_once(self):
        rng = random.Random(1)
        for many in (0, 1, 2, 3, 4, 5, 6, 7, 8):
            for _ in range(12):
                run = random_run(rng, many)
                for hand in ("caller", "keeper"):
                    self.assertEqual(list(delays(hand, run)), all_delays(hand, run))

    def test_is_delay(self):
        rng = random.Random(2)
        for many in (0, 1, 2, 3, 4, 5, 6):
            for _ in range(20):
                run = random_run(rng, many)
                for hand in ("caller", "keeper"):
                    known = all_delays(hand, run)
                    for other in itertools.islice(itertools.permutations(run), 200):
                        self.assertIs(is_delay(hand, run, other), other in known)
                    for other in (run[:-1], (*run, FIRST), random_run(rng, many)):
                        self.assertIs(is_delay(hand, run, other), other in known)

    def test_a_run_is_a_delay_of_itself(self):
        for hand in ("caller", "keeper"):
            self.assertIs(is_delay(hand, (GOOD * 3)[:12], (GOOD * 3)[:12]), True)
            self.assertEqual(list(delays(hand, ())), [()])
        self.assertIs(is_delay("keeper", (THEN, FIRST), (FIRST, THEN)), True)
        self.assertIs(is_delay("keeper", (FIRST, THEN), (THEN, FIRST)), False)
        self.assertIs(is_delay("caller", (FIRST, THEN), (THEN, FIRST)), True)
        self.assertIs(is_delay("caller", (THEN, FIRST), (FIRST, THEN)), False)

    def test_delays_of_a_run_that_is_won_are_won(self):
        for promise in SOME[:40]:
            for run in reference.sound_runs(promise.text)[:40]:
                run = (*run, ("caller", (3,), 0))[:12] if len(run) % 3 == 1 else run
                for world in reference.worlds(promise)[:4]:
                    hand = winner(promise, run, world)
                    for other in itertools.islice(delays(hand, run), 20):
                        self.assertEqual(winner(promise, other, world), hand)

    def test_delays_at_the_bound(self):
        own = tuple(("keeper", (), at % 4) for at in range(6))
        others = tuple(("caller", (), at % 4) for at in range(6))
        found = list(delays("keeper", own + others))
        self.assertEqual([len(found), len(set(found)), found == sorted(found)], [924, 924, True])
        self.assertEqual(list(delays("caller", own + others)), [own + others])
        self.assertEqual(len(list(delays("caller", others + own))), 924)

    def test_errors(self):
        for value in [*all_sorts(), "mine"]:
            if not isinstance(value, str) or value not in ("keeper", "caller"):
                with self.assertRaises(InvalidOperation):
                    is_delay(value, 3, 3)
                made = delays(value, 3)
                with self.assertRaises(InvalidOperation):
                    next(made)
        for value in [*all_sorts(), (GOOD * 3)[:13], [FIRST], *[(value,) for value in BAD]]:
            if value != ():
                for call in (lambda: is_delay("keeper", value, 3), lambda: is_delay("caller", (), value),
                             lambda: next(delays("keeper", value))):
                    with self.assertRaises(InvalidRun):
                        call()


class SoundRunsTest(unittest.TestCase):
    def test_all_sound_runs_in_order(self):
        for promise in SOME:
            expected = reference.sound_runs(promise.text)
            self.assertEqual(expected, sorted(set(expected)))
            self.assertEqual(list(sound_runs(promise, 12)), expected)
            self.assertEqual(count_runs(promise), len(expected))
            for most in (0, 1, 2, 3):
                self.assertEqual(list(sound_runs(promise, most)), [run for run in expected if len(run) <= most])

    def test_most(self):
        for value in [*all_sorts(), 13, -1, True, False, 12.5]:
            if type(value) is not int or not 0 <= value <= 12:
                made = sound_runs(COPY, value)
                with self.assertRaises(InvalidNumber) as caught:
                    next(made)
                self.assertEqual(caught.exception.number, value)
                self.assertIs(type(caught.exception.number), type(value))
        self.assertEqual(list(sound_runs(promise=COPY, most=0)), [()])
        self.assertEqual(len(list(sound_runs(COPY, 12))), 13)

    def test_a_run_of_ten_moves(self):
        ten = Promise.of("all", (TWICE & TWICE, COPY, A + A, A * A))
        self.assertEqual(ten.choices, 10)
        run = next(run for run in sound_runs(ten, 12) if len(run) == 10)
        self.assertIsNone(first_wrong(ten, run))
        self.assertEqual([moves_at(played(ten, run), hand) for hand in ("caller", "keeper")], [(), ()])

    def test_many_sound_runs_come_one_by_one(self):
        promise = Promise.of("all", (TWICE & TWICE, COPY, A + A, A * A))
        found = list(itertools.islice(sound_runs(promise, 12), 30000))
        self.assertEqual(found, sorted(found))
        self.assertEqual(len(set(found)), 30000)
        self.assertTrue(all(first_wrong(promise, run) is None for run in found[::500]))
        with self.assertRaises(TooMany) as caught:
            count_runs(promise)
        self.assertEqual(caught.exception.limit, 20000)

    def test_numbers_of_runs(self):
        given = {"a": 1, "[a + b]": 3, "[a + a]": 3, "[a * [a + b] * b]": 6, "([a + b] & [c * d])": 13}
        for text, many in given.items():
            self.assertEqual(count_runs(Promise.read(text)), many)
        eight = Promise.of("some", (Promise.of("all", (A + A,) * 4), Promise.of("all", (A * A,) * 4)))
        # Each of k choices in its place in the line, with two parts.
        expected, lines = 0, 1
        for many in range(9):
            expected += lines
            lines = lines * (8 - many) * 2
        self.assertEqual(count_runs(eight), expected)


if __name__ == "__main__":
    unittest.main()
