"""The document read once more, plainly and without regard to time: what the program is judged by."""

import functools
import itertools

from eitherhand.base.promises import Promise

HAND = {"mine": "keeper", "yours": "caller"}


def surface(promise, place=()):
    """All places, by recursion through the parts."""
    found = [place]
    if promise.kind in ("all", "some"):
        for at, part in enumerate(promise.parts):
            found += surface(part, place + (at,))
    return found


def part(promise, place):
    """The promise at a place."""
    for at in place:
        promise = promise.parts[at]
    return promise


def exchanged(promise, place, other):
    """The promise with another one at a place."""
    if not place:
        return other
    parts = list(promise.parts)
    parts[place[0]] = exchanged(parts[place[0]], place[1:], other)
    return Promise.of(promise.kind, tuple(parts))


def moves(promise):
    """The dict from all moves that are there, ascending, to the promises behind them."""
    found = {}
    for place in surface(promise):
        choice = part(promise, place)
        if choice.kind in HAND:
            for at, chosen in enumerate(choice.parts):
                found[(HAND[choice.kind], place, at)] = exchanged(promise, place, chosen)
    return {move: found[move] for move in sorted(found)}


@functools.lru_cache(maxsize=None)
def game(text):
    """The dict from the texts of all positions to the dicts from their moves to texts."""
    found = {}
    waiting = [text]
    while waiting:
        one = waiting.pop()
        if one not in found:
            found[one] = {move: behind.text for move, behind in moves(Promise.read(one)).items()}
            waiting += found[one].values()
    return found


def ways(text, position, hand):
    """The list of pairs of each call of a hand at a position and the text behind it."""
    return [((place, at), behind) for (one, place, at), behind in game(text)[position].items() if one == hand]


def holds(promise, world):
    """Whether the plain form is true in a world."""
    kind, told = promise.nodes[0]
    if kind in ("all", "some"):
        return (all if kind == "all" else any)(holds(one, world) for one in promise.parts)
    if kind in ("fact", "not"):
        return (told in world) == (kind == "fact")
    return kind in ("yes", "yours")


def worlds(promise):
    """All worlds, sorted."""
    facts = promise.facts
    return sorted(one for many in range(len(facts) + 1) for one in itertools.combinations(facts, many))


@functools.lru_cache(maxsize=None)
def stable(text):
    """Whether the position holds in all its worlds."""
    promise = Promise.read(text)
    return all(holds(promise, world) for world in worlds(promise))


@functools.lru_cache(maxsize=None)
def kept(text):
    """The positions that are kept: those that are left when all others are crossed out one by one."""
    left = set(game(text))
    while True:
        out = {
            one for one in left
            if not (stable(one) and all(behind in left for _, behind in ways(text, one, "caller")))
            and not any(behind in left for _, behind in ways(text, one, "keeper"))
        }
        # A position without an end is not kept either, but each call uses up a choice.
        if not out:
            return frozenset(left)
        left -= out


def is_plan(text, table):
    """Whether a dict is a plan, word by word as in [0.13]."""
    if text not in table or any(key not in game(text) for key in table):
        return False
    for key, told in table.items():
        if told is None:
            if not stable(key) or any(behind not in table for _, behind in ways(text, key, "caller")):
                return False
        elif dict(ways(text, key, "keeper")).get(told) not in table:
            return False
    return True


def is_counter(text, table):
    """Whether a dict is a counter, word by word as in [0.14]."""
    if text not in table or any(key not in game(text) for key in table):
        return False
    for key, told in table.items():
        if told[0] == "rest":
            if told[1] not in worlds(Promise.read(text)) or holds(Promise.read(key), told[1]):
                return False
            if any(behind not in table for _, behind in ways(text, key, "keeper")):
                return False
        elif dict(ways(text, key, "caller")).get(told[1:]) not in table:
            return False
    return True


class Going:
    """A hand that goes by a table, word by word as in [0.15]."""

    def __init__(self, text, hand, table):
        self.text, self.hand, self.table, self.at, self.line = text, hand, table, text, []
        self.other = "caller" if hand == "keeper" else "keeper"
        self.met = [text]

    def due(self):
        told = self.table.get(self.at)
        if told is None or told[0] == "rest":
            return None
        return told[1:] if told[0] == "call" else told

    def settle(self):
        while self.due() is None and self.line:
            self.at = dict(ways(self.text, self.at, self.other))[self.line.pop(0)]
            self.met.append(self.at)

    def takes(self, move):
        """Whether a move can come in a run that goes by the table."""
        hand, *call = move
        if hand == self.other:
            self.line.append(tuple(call))
        elif self.due() != tuple(call):
            return False
        else:
            self.at = dict(ways(self.text, self.at, self.hand))[tuple(call)]
            self.met.append(self.at)
        self.settle()
        return True


def goes_by(text, hand, table, run):
    """Whether a sound run goes by a table, and the hand behind it."""
    going = Going(text, hand, table)
    for move in run:
        if not going.takes(move):
            return False, going
    return True, going


def sound_runs(text, most=12):
    """All sound runs, by recursion."""
    def longer(position, left):
        found = [()]
        if left:
            for move, behind in game(text)[position].items():
                found += [(move, *rest) for rest in longer(behind, left - 1)]
        return found
    return longer(text, most)


def end_of(text, run):
    """The text of the position behind a sound run."""
    position = text
    for move in run:
        position = game(text)[position][move]
    return position


def random_table(text, hand, rng):
    """A plan of a kept promise, or a counter of another one, whose entries are chosen at random."""
    return random_table_at(text, text, hand, rng)


def random_table_at(text, start, hand, rng):
    """Such a table, but from another position of the promise on."""
    won = kept(text) if hand == "keeper" else frozenset(game(text)) - kept(text)
    other = "caller" if hand == "keeper" else "keeper"
    table = {}
    waiting = [start]
    while waiting:
        one = waiting.pop()
        if one in table:
            continue
        told = [(call, [behind]) for call, behind in ways(text, one, hand) if behind in won]
        heard = [behind for _, behind in ways(text, one, other)]
        if hand == "caller":
            told = [(("call", *call), behind) for call, behind in told]
            for world in worlds(Promise.read(text)):
                if not holds(Promise.read(one), world) and all(behind in won for behind in heard):
                    told.append((("rest", world), heard))
        elif stable(one) and all(behind in won for behind in heard):
            told.append((None, heard))
        table[one], behind = rng.choice(told)
        waiting += behind
    return table


def with_calls(text, hand, table, wanted):
    """The run of a hand that goes by a table and of calls of the other one, or None."""
    going = Going(text, hand, table)
    run = []
    wanted = list(wanted)
    while True:
        there = dict(ways(text, end_of(text, run), going.other))
        if wanted and wanted[0] in there:
            run.append((going.other, *wanted.pop(0)))
        elif going.due() is not None:
            run.append((hand, *going.due()))
        else:
            return None if wanted else tuple(run)
        if not going.takes(run[-1]):
            raise AssertionError(run)
