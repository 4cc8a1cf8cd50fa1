"""The document read once more, plainly and without regard to time: what the program is judged by."""

import functools
import itertools

from eitherhand.base.promises import Promise

HAND = {"mine": "keeper", "yours": "caller"}


def surface(promise, place=()):
    """All places, by recursion through the parts."""
    found = [place]
    if promise.kind in ("all", "some"):
        for at, part in enumerate(promise.parts):
            found += surface(part, place + (at,))
    return found


def part(promise, place):
    """The promise at a place."""
    for at in place:
        promise = promise.parts[at]
    return promise


def exchanged(promise, place, other):
    """The promise with another one at a place."""
    if not place:
        return other
    parts = list(promise.parts)
    parts[place[0]] = exchanged(parts[place[0]], place[1:], other)
    return Promise.of(promise.kind, tuple(parts))


def moves(promise):
    """The dict from all moves that are there, ascending, to the promises behind them."""
    found = {}
    for place in surface(promise):
        choice = part(promise, place)
        if choice.kind in HAND:
            for at, chosen in enumerate(choice.parts):
                found[(HAND[choice.kind], place, at)] = exchanged(promise, place, chosen)
    return {move: found[move] for move in sorted(found)}


@functools.lru_cache(maxsize=None)
def game(text):
    """The dict from the texts of all positions to the dicts from their moves to texts."""
    found = {}
    waiting = [text]
    while waiting:
        one = waiting.pop()
        if one not in found:
            found[one] = {move: behind.text for move, behind in moves(Promise.read(one)).items()}
            waiting += found[one].values()
    return found


def ways(text, position, hand):
    """The list of pairs of each call of a hand at a position and the text behind it."""
    return [((place, at), behind) for (one, place, at), behind in game(text)[position].items() if one == hand]


def holds(promise, world):
    """Whether the plain form is true in a world."""
    kind, told = promise.nodes[0]
    if kind in ("all", "some"):
        return (all if kind == "all" else any)(holds(one, world) for one in promise.parts)
    if kind in ("fact", "not"):
        return (told in world) == (kind == "fact")
    return kind in ("yes", "yours")


def worlds(promise):
    """All worlds, sorted."""
    facts = promise.facts
    return sorted(one for many in range(len(facts) + 1) for one in itertools.combinations(facts, many))


@functools.lru_cache(maxsize=None)
def stable(text):
    """Whether the position holds in all its worlds."""
    promise = Promise.read(text)
    return all(holds(promise, world) for world in worlds(promise))


@functools.lru_cache(maxsize=None)
def kept(text):
    """The positions that are kept: those that are left when all others are crossed out one by one."""
    left = set(game(text))
    while True:
        out = {
            one for one in left
            if not (stable(one) and all(behind in left for _, behind in ways(text, one, "caller")))
            and not any(behind in left for _, behind in ways(text, one, "keeper"))
        }
        # A position without an end is not kept either, but each call uses up a choice.
        if not out:
            return frozenset(left)
        left -= out


def is_plan(text, table):
    """Whether a dict is a plan, word by word as in [0.13]."""
    if text not in table or any(key not in game(text) for key in table):
        return False
    for key, told in table.items():
        if told is None:
            if not stable(key) or any(behind not in table for _, behind in ways(text, key, "caller")):
                return False
        elif dict(ways(text, key, "keeper")).get(told) not in table:
            return False
    return True


def is_counter(text, table):
    """Whether a dict is a counter, word by word as in [0.14]."""
    if text not in table or any(key not in game(text) for key in table):
        return False
    for key, told in table.items():
        if told[0] == "rest":
            if told[1] not in worlds(Promise.read(text)) or holds(Promise.read(key), told[1]):
                return False
            if any(behind not in table for _, behind in ways(text, key, "keeper")):
                return False
        elif dict(ways(text, key, "caller")).get(told[1:]) not in table:
            return False
    return True


class Going:
    """A hand that goes by a table, word by word as in [0.15]."""

    def __init__(self, text, hand, table):
        self.text, self.hand, self.table, self.at, self.line = text, hand, table, text, []
        self.other = "caller" if hand == "keeper" else "keeper"
        self.met = [text]

    def due(self):
        told = self.table.get(self.at)
        if told is None or told[0] == "rest":
            return None
        return told[1:] if told[0] == "call" else told

    def settle(self):
        while self.due() is None and self.line:
            self.at = dict(ways(self.text, self.at, self.other))[self.line.pop(0)]
            self.met.append(self.at)

    def takes(self, move):
        """Whether a move can come in a run that goes by the table."""
        hand, *call = move
        if hand == self.other:
            self.line.append(tuple(call))
        elif self.due() != tuple(call):
            return False
        else:
            self.at = dict(ways(self.text, self.at, self.hand))[tuple(call)]
            self.met.append(self.at)
        self.settle()
        return True


def goes_by(text, hand, table, run):
    """Whether a sound run goes by a table, and the hand behind it."""
    going = Going(text, hand, table)
    for move in run:
        if not going.takes(move):
            return False, going
    return True, going


def sound_runs(text, most=12):
    """All sound runs, by recursion."""
    def longer(position, left):
        found = [()]
        if left:
            for move, behind in game(text)[position].items():
                found += [(move, *rest) for rest in longer(behind, left - 1)]
        return found
    return longer(text, most)


def end_of(text, run):
    """The text of the position behind a sound run."""
    position = text
    for move in run:
        position = game(text)[position][move]
    return position


def random_table(text, hand, rng):
    """A plan of a kept promise, or a counter of another one, whose entries are chosen at random."""
    return random_table_at(text, text, hand, rng)


def random_table_at(text, start, hand, rng):
    """Such a table, but from another position of the promise on."""
    won = kept(text) if hand == "keeper" else frozenset(game(text)) - kept(text)
    other = "caller" if hand == "keeper" else "keeper"
    table = {}
    waiting = [start]
    while waiting:
        one = waiting.pop()
        if one in table:
            continue
        told = [(call, [behind]) for call, behind in ways(text, one, hand) if behind in won]
        heard = [behind for _, behind in ways(text, one, other)]
        if hand == "caller":
            told = [(("call", *call), behind) for call, behind in told]
            for world in worlds(Promise.read(text)):
                if not holds(Promise.read(one), world) and all(behind in won for behind in heard):
                    told.append((("rest", world), heard))
        elif stable(one) and all(behind in won for behind in heard):
            told.append((None, heard))
        table[one], behind = rng.choice(told)
        waiting += behind
    return table


def with_calls(text, hand, table, wanted):
    """The run of a hand that goes by a table and of calls of the other one, or None."""
    going = Going(text, hand, table)
    run = []
    wanted = list(wanted)
    while True:
        there = dict(ways(text, end_of(text, run), going.other))
        if wanted and wanted[0] in there:
            run.append((going.other, *wanted.pop(0)))
        elif going.due() is not None:
            run.append((hand, *going.due()))
        else:
            return None if wanted else tuple(run)
        if not going.takes(run[-1]):
            raise AssertionError(run)


def bridge(one, other):
    """The text of the bridge between two texts."""
    return f"({-Promise.read(one)} | {other})"


def leads(one, other):
    """Whether the bridge of two texts is kept."""
    return bridge(one, other) in kept(bridge(one, other))


def kept_where(text, can_wait):
    """The positions that are kept if a keeper can wait where a function tells, by recursion."""
    @functools.lru_cache(maxsize=None)
    def is_kept(one):
        if can_wait(one) and all(is_kept(behind) for _, behind in ways(text, one, "caller")):
            return True
        return any(is_kept(behind) for _, behind in ways(text, one, "keeper"))
    return frozenset(one for one in game(text) if is_kept(one))


def holds_in(text, chosen):
    """Whether a position holds in each world of a set, a world counting by the facts that are left."""
    promise = Promise.read(text)
    return all(holds(promise, tuple(fact for fact in world if fact in promise.facts)) for world in chosen)


def kept_in(text, chosen):
    """The positions that are kept in a set of worlds."""
    return kept_where(text, lambda one: holds_in(one, chosen))


def sets_of(values):
    """All ascending tuples of some values."""
    values = sorted(values)
    return sorted(one for many in range(len(values) + 1) for one in itertools.combinations(values, many))


def greatest_sets(text):
    """The greatest sets, found by asking for each set."""
    good = [set(one) for one in sets_of(worlds(Promise.read(text))) if text in kept_in(text, one)]
    return tuple(sorted(tuple(sorted(one)) for one in good if not any(one < other for other in good)))


def agreeing(promise, known):
    """All worlds that agree with what is known, a tuple of pairs."""
    return tuple(world for world in worlds(promise) if all((fact in world) == truth for fact, truth in known))


def kept_knowing(text, facts):
    """Whether a promise is kept knowing some facts."""
    promise = Promise.read(text)
    return all(
        text in kept_in(text, agreeing(promise, tuple((fact, fact in told) for fact in facts)))
        for told in sets_of(facts)
    )


def least_facts(text):
    """All least facts, found by asking for each part of the facts."""
    enough = [one for one in sets_of(Promise.read(text).facts) if kept_knowing(text, one)]
    return tuple(sorted(one for one in enough if not any(set(other) < set(one) for other in enough)))


class Inquiry:
    """A promise kept by asking, by recursion through all states, word by word as in [16.2]."""

    def __init__(self, text):
        self.text, self.promise, self.known_of = text, Promise.read(text), {}

    def holds(self, position, known):
        return holds_in(position, agreeing(self.promise, known))

    def answers(self, known, fact):
        return [tuple(sorted((*known, (fact, truth)))) for truth in (True, False)]

    def unknown(self, known):
        return [fact for fact in self.promise.facts if fact not in dict(known)]

    def kept(self, position, known, left):
        state = (position, known, left)
        if state not in self.known_of:
            self.known_of[state] = self.worked_out(position, known, left)
        return self.known_of[state]

    def worked_out(self, position, known, left):
        if self.holds(position, known) and all(
                self.kept(behind, known, left) for _, behind in ways(self.text, position, "caller")):
            return True
        if any(self.kept(behind, known, left) for _, behind in ways(self.text, position, "keeper")):
            return True
        return left > 0 and any(
            all(self.kept(position, more, left - 1) for more in self.answers(known, fact))
            for fact in self.unknown(known))

    def is_plan(self, table, most):
        """Whether a dict of proper entries is a plan."""
        if (self.text, (), most) not in table:
            return False
        for (position, known, left), told in table.items():
            if told is None:
                behind = [(one, known, left) for _, one in ways(self.text, position, "caller")]
                fine = self.holds(position, known)
            elif isinstance(told, str):
                fine = left > 0 and told in self.unknown(known)
                behind = [(position, more, left - 1) for more in self.answers(known, told)]
            else:
                one = dict(ways(self.text, position, "keeper")).get(told)
                fine, behind = one is not None, [(one, known, left)]
            if not fine or any(one not in table for one in behind):
                return False
        return True

    def is_counter(self, table, most):
        """Whether a dict of proper entries is a counter."""
        if (self.text, (), most) not in table:
            return False
        for (position, known, left), told in table.items():
            if told[0] == "call":
                one = dict(ways(self.text, position, "caller")).get(told[1:])
                if (one, known, left) not in table:
                    return False
                continue
            if told[1] not in agreeing(self.promise, known) or holds_in(position, (told[1],)):
                return False
            if any((one, known, left) not in table for _, one in ways(self.text, position, "keeper")):
                return False
            if left > 0 and not all(
                    any((position, more, left - 1) in table for more in self.answers(known, fact))
                    for fact in self.unknown(known)):
                return False
        return True


def tidy(promise):
    """The tidied promise, step by step as in [11.3]."""
    if promise.parts == ():
        return promise
    kind, parts = promise.kind, [tidy(one) for one in promise.parts]
    while True:
        after = tidy_step(kind, parts)
        if after == parts:
            break
        parts = after
    if len(parts) > 1:
        return Promise.of(kind, tuple(parts))
    return parts[0] if parts else Promise.sure() if kind in ("all", "yours") else Promise.never()


def tidy_step(kind, parts):
    """The parts behind the first of the five steps that changes anything."""
    sure, never = Promise.sure(), Promise.never()
    for at, one in enumerate(parts):
        if one.kind == kind and len(parts) - 1 + len(one.parts) <= 4:
            return [*parts[:at], *one.parts, *parts[at + 1:]]
    if len(parts) > 1 and kind in ("all", "yours") and never in parts:
        return [never]
    if len(parts) > 1 and kind in ("some", "mine") and sure in parts:
        return [sure]
    less = [one for one in parts if one != (sure if kind in ("all", "yours") else never)]
    if less != parts:
        return less
    once = []
    for one in parts:
        if one in once and (kind in ("mine", "yours") or one.choices == 0):
            continue
        once.append(one)
    if once != parts:
        return once
    return [Promise.read(text) for text in sorted(one.text for one in parts)]
