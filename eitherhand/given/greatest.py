"""The greatest sets of worlds in which positions are kept.

Sets are told by masks. A *family* is a list of sets of which none is a part of another one: it
stands for all parts of these sets, too.
"""

from eitherhand.errors import TooMany

FEW = 60


class Cover:
    """Sets that are found one by one; where they are many, it is marked which of them have a world."""

    def __init__(self):
        self.sets = []
        self._marked = 0
        self._having = {}

    def put_in(self, chosen):
        """Add a set."""
        self.sets.append(chosen)

    def covers(self, chosen):
        """Whether a set is a part of one of these."""
        if len(self.sets) < FEW:
            return is_within(chosen, self.sets)
        while self._marked < len(self.sets):
            self._mark()
        left = (1 << self._marked) - 1
        for world in _bits(chosen):
            left = left & self._having.get(world, 0)
            if left == 0:
                return False
        return True

    def _mark(self):
        """Mark the worlds of the next set."""
        for world in _bits(self.sets[self._marked]):
            self._having[world] = self._having.get(world, 0) | (1 << self._marked)
        self._marked = self._marked + 1


def _bits(chosen):
    """The list of the powers of two in a mask."""
    found = []
    while chosen > 0:
        least = chosen & -chosen
        found.append(least)
        chosen = chosen - least
    return found


def is_within(chosen, sets):
    """Whether a set is a part of some one of several sets."""
    for one in sets:
        if chosen & one == chosen:
            return True
    return False


def family_of(sets):
    """The family of the greatest ones of several sets."""
    cover = Cover()
    # A set that has another one as a part is the greater number.
    for chosen in sorted(list({part: True for part in sets}), reverse=True):
        if not cover.covers(chosen):
            cover.put_in(chosen)
    return cover.sets


def greatest_on(board, limit):
    """The family of the sets in which the promise is kept; each position has at most so many."""
    families = [[] for _ in board.texts]
    for number in reversed(range(len(families))):
        answered = [one for _, behind in board.ways["keeper"][number] for one in families[behind]]
        calling = family_of(answered)
        heard = {tuple(families[behind]): True for _, behind in board.ways["caller"][number]}
        waiting = _in_common(board.masks[number], sorted(list(heard), key=len), calling, limit)
        families[number] = family_of(waiting + calling)
        if len(families[number]) > limit:
            raise TooMany(limit)
    return families[0]


def _in_common(mask, heard, calling, limit):
    """The family of what a mask and several families have in common, but within no set of another one."""
    waiting = [mask]
    for family in heard:
        if len(waiting) * len(family) > 10 * limit:
            return _searched(mask, heard, calling, limit)
        parts = [part for chosen in waiting for part in _common(chosen, family)]
        waiting = [part for part in family_of(parts) if not is_within(part, calling)]
    return waiting


def _common(chosen, family):
    """What a set has in common with each set of a family; all of it with one of them is enough."""
    found = []
    for one in family:
        part = chosen & one
        if part == chosen:
            return [chosen]
        found.append(part)
    return found


def _searched(mask, heard, calling, limit):
    """The same as above, where much lies on the way: found set by set, so that too many are seen soon."""
    cover = Cover()
    above = Cover()
    for chosen in calling:
        above.put_in(chosen)
    seen = [Cover() for _ in range(len(heard) + 1)]
    begun = [(mask, 0)]
    while begun:
        chosen, level = begun.pop()
        if cover.covers(chosen) or above.covers(chosen) or seen[level].covers(chosen):
            continue
        seen[level].put_in(chosen)
        if level < len(heard):
            begun.extend([(part, level + 1) for part in family_of(_common(chosen, heard[level]))])
        else:
            cover.put_in(_grown(chosen, mask, heard))
            if len(cover.sets) > limit:
                raise TooMany(limit)
    return cover.sets


def _grown(chosen, mask, heard):
    """A greatest set within a mask and a set of each family that has a set as its part."""
    rows = [[one for one in family if chosen & one == chosen] for family in heard]
    for world in _bits(mask - chosen):
        longer = [[one for one in row if one & world == world] for row in rows]
        if [] not in longer:
            chosen = chosen | world
            rows = longer
    return chosen
