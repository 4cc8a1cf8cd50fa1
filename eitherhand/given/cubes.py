"""What can be known of some facts: each one is known to be false, known to be true, or not known.

All that can be known has numbers in base three, in which a fact has the digit 0, 1 or 2, in this
order. What is true of some of these *cubes* is told by a mask with a bit for each number.
"""

from eitherhand.base.truth import fact_masks, worlds_of

NOT_KNOWN = 2


class Cubes:
    """The cubes of the facts of a board."""

    def __init__(self, board):
        self._full = board.full
        self._facts = fact_masks(board.words, board.world_list)
        self._weights = {}
        weight = 1
        for fact in board.words:
            self._weights[fact] = weight
            weight = weight * 3
        self._start = weight - 1
        self._told = {fact: _cubes_told(self._weights[fact], weight) for fact in board.words}
        self._bits = [1 << self.number_of(answers_in(board.words, world)) for world in board.world_list]
        self._whole = {}
        self._by_question = {}

    def number_of(self, known):
        """The number of what is known."""
        number = self._start
        for fact, truth in known:
            number = number - self._weights[fact] * (NOT_KNOWN - (1 if truth else 0))
        return number

    def agreeing(self, known):
        """The mask of the worlds that agree with what is known."""
        mask = self._full
        for fact, truth in known:
            mask = mask & (self._facts[fact] if truth else self._full - self._facts[fact])
        return mask

    def within(self, mask):
        """The mask of the cubes all whose worlds are in a mask of worlds."""
        if mask not in self._whole:
            found = sum([bit for at, bit in enumerate(self._bits) if (mask >> at) & 1 == 1])
            # From cubes that know all facts to those that know all but one, and so on.
            for fact in self._weights:
                found = found | self._both(found, fact)
            self._whole[mask] = found
        return self._whole[mask]

    def by_question(self, mask):
        """The mask of the cubes from which, for some fact, both answers lead to cubes of a mask."""
        if mask not in self._by_question:
            found = 0
            for fact in self._weights:
                found = found | self._both(mask, fact)
            self._by_question[mask] = found
        return self._by_question[mask]

    def _both(self, mask, fact):
        """The mask of the cubes from which both answers about a fact lead to cubes of a mask."""
        weight = self._weights[fact]
        # What lacks the fact is one weight above what knows it to be true, two above what denies it.
        return (mask << (2 * weight)) & ((mask & self._told[fact]) << weight)


def _cubes_told(weight, many):
    """The mask of the cubes that know a fact to be true, by its weight."""
    return sum([1 << number for number in range(many) if number // weight % 3 == 1])


def answers_in(facts, world):
    """What is known where some facts have been asked for in a world."""
    return tuple([(fact, fact in world) for fact in facts])


def answers_about(facts):
    """The list of all that can be known of just some facts."""
    return [answers_in(facts, world) for world in worlds_of(facts)]


def with_answer(known, fact, truth):
    """What is known behind one more answer."""
    return tuple(sorted(known + ((fact, truth),)))


def kept_cubes(board, cubes, asked):
    """The list that tells by numbers of positions in which cubes they are kept.

    Those are among them in which they stay kept behind a question, which are told by another list.
    """
    found = [0 for _ in board.texts]
    # Calls lead to greater numbers, so what is behind a position is known before it.
    for number in reversed(range(len(found))):
        mask = cubes.within(board.masks[number])
        for _, behind in board.ways["caller"][number]:
            mask = mask & found[behind]
        for _, behind in board.ways["keeper"][number]:
            mask = mask | found[behind]
        found[number] = mask | asked[number]
    return found


def kept_unasked(board, cubes):
    """The same list for a keeper who knows, and cannot ask."""
    return kept_cubes(board, cubes, [0 for _ in board.texts])
