"""Boards: all positions of a promise at once.

Calls at different places do not touch one another. So the positions of all or some are just the
tuples of the positions of the parts, and a board is put together from the boards of the parts:
no position is taken apart, and each text is written once.
"""

from eitherhand.base.nodes import SIGNS, bracketed, facts_of, parts_of, plain_text
from eitherhand.base.truth import fact_masks, joined_mask, mask_of_all, plain_mask, worlds_of
from eitherhand.base.ways import CALLED
from eitherhand.base.words import HANDS, is_integer
from eitherhand.errors import TooMany


class Board:
    """The positions of a promise by their numbers, at most so many as a limit tells.

    The promise has the number 0, and each call leads to a greater number. By numbers, `texts`
    has the texts, `masks` the masks of the worlds of the promise in which the position holds,
    and `ways[hand]` the list of the pairs of each call of a hand, ascending, and of the number
    to which it leads. On a board that is narrowed some worlds alone count.
    """

    def __init__(self, nodes, limit):
        words = facts_of(nodes)
        worlds = worlds_of(words)
        full = mask_of_all(worlds)
        laid = _laid_out(nodes, fact_masks(words, worlds), full, limit)
        self.words = words
        self.world_list = worlds
        self.full = full
        self.texts = laid["texts"]
        self.masks = laid["masks"]
        self._wide = laid["masks"]
        self.ways = {hand: laid[hand] for hand in HANDS}
        self.numbers = {text: number for number, text in enumerate(self.texts)}

    def number_of(self, value):
        """The number of the position with a text, or None if the value is none of the texts."""
        return self.numbers.get(value) if isinstance(value, str) else None

    def target(self, hand, number, call):
        """The number to which a call leads, or None if the hand cannot make it."""
        for known, behind in self.ways[hand][number]:
            # A pair with True in the place of 1 is equal to a call, but is none.
            if known == call and _has_integers(call):
                return behind
        return None

    def way_to(self, goal):
        """The calls of both hands, each a triple, that lead from the promise to a position."""
        came = {0: ()}
        # All ways to a position come from lesser numbers.
        for number in range(goal):
            for hand in HANDS:
                for call, behind in self.ways[hand][number]:
                    came.setdefault(behind, (number, hand, call))
        way = []
        while goal > 0:
            goal, hand, call = came[goal]
            way.append((hand, call[0], call[1]))
        return tuple(reversed(list(way)))

    def mask_of_worlds(self, chosen):
        """The mask of some worlds of the promise."""
        bits = {world: 1 << at for at, world in enumerate(self.world_list)}
        return sum([bits[world] for world in chosen])

    def worlds_in(self, mask):
        """The ascending tuple of the worlds that have bits in a mask."""
        return tuple([world for at, world in enumerate(self.world_list) if (mask >> at) & 1 == 1])

    def narrow(self, mask):
        """Let the worlds alone count that have bits in a mask: in all others everything holds now."""
        outside = self.full - mask
        self.masks = [wide | outside for wide in self._wide]

    def does_always_hold(self, number):
        """Whether a position holds in all worlds that count."""
        return self.masks[number] == self.full


def _has_integers(call):
    """Whether integers stand at all places of a value that is equal to a call."""
    place, index = call
    return is_integer(index) and all([is_integer(at) for at in place])


def _laid_out(nodes, masks, full, limit):
    """The lists of a board, as a dict from words and hands."""
    kind, told = nodes[0]
    if kind not in SIGNS:
        mask = plain_mask(kind, told, masks, full)
        return {"texts": [plain_text(kind, told)], "masks": [mask], "caller": [[]], "keeper": [[]]}
    parts = [_laid_out(part, masks, full, limit) for part in parts_of(nodes)]
    if kind in ("all", "some"):
        return _side_by_side(kind, parts, full, limit)
    return _one_of(kind, parts, full, limit)


def _side_by_side(kind, parts, full, limit):
    """The lists of all or some of parts: the first part's number counts most."""
    many = 1
    for part in parts:
        many = many * len(part["texts"])
    if many > limit:
        raise TooMany(limit)
    texts = [[]]
    masks = [[]]
    for part in parts:
        texts = [row + [text] for row in texts for text in part["texts"]]
        masks = [row + [mask] for row in masks for mask in part["masks"]]
    laid = {
        "texts": [bracketed(kind, row) for row in texts],
        "masks": [joined_mask(kind, row, full) for row in masks],
    }
    for hand in HANDS:
        laid[hand] = _ways_side_by_side(parts, hand)
    return laid


def _ways_side_by_side(parts, hand):
    """The ways of a hand where it can call in each part."""
    ways = [[]]
    for index, part in enumerate(parts):
        size = len(part["texts"])
        inner = [
            [(((index,) + place, at), behind) for (place, at), behind in row] for row in part[hand]
        ]
        ways = [
            [(call, behind * size + own) for call, behind in row]
            + [(call, number * size + behind) for call, behind in inner[own]]
            for number, row in enumerate(ways) for own in range(size)
        ]
    return ways


def _one_of(kind, parts, full, limit):
    """The lists of a choice between parts: equal positions of several parts are one."""
    found = {}
    for index, part in enumerate(parts):
        for number, text in enumerate(part["texts"]):
            found.setdefault(text, (index, number))
    if len(found) >= limit:
        raise TooMany(limit)
    # A call makes the text shorter, so by descending lengths it leads to a greater number.
    texts = sorted(list(found), key=len, reverse=True)
    first = [part["texts"][0] for part in parts]
    laid = {
        "texts": [bracketed(kind, first)] + texts,
        "masks": [joined_mask(kind, [], full)]
        + [parts[found[text][0]]["masks"][found[text][1]] for text in texts],
    }
    numbers = {text: at + 1 for at, text in enumerate(texts)}
    own = [(((), index), numbers[text]) for index, text in enumerate(first)]
    for hand in HANDS:
        laid[hand] = [own if kind == CALLED[hand] else []]
        for text in texts:
            index, number = found[text]
            laid[hand].append([
                (call, numbers[parts[index]["texts"][behind]])
                for call, behind in parts[index][hand][number]
            ])
    return laid
