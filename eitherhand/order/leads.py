"""Which promises lead to others, and papers that show it."""

from eitherhand.base.boards import Board
from eitherhand.base.nodes import bracketed, joined, turned
from eitherhand.base.places import MAX_POSITIONS, board_of, check_promise
from eitherhand.base.promises import Promise
from eitherhand.base.words import is_index
from eitherhand.errors import InvalidNumber, InvalidOperation, InvalidPlan, InvalidPromise, TooMany
from eitherhand.keep.judging import is_paper_on, is_plan_on
from eitherhand.keep.solving import dues_of_plan, in_order, kept_on, paper_on, plan_table

MOST_PROMISES = 6
PAPERS = ("leads", "not")


def made_of(nodes):
    """The promise with some nodes, of which there can be too many."""
    try:
        return Promise(nodes)
    except InvalidPromise:
        raise InvalidOperation("the promise would be too great") from None


def bridged(one, other):
    """The bridge between two promises, however many positions it has."""
    check_promise(one)
    check_promise(other)
    return made_of(joined("some", [turned(one.nodes), other.nodes]))


def _check_positions(one, other):
    """Raise the error of a bridge that has too many positions."""
    # Nothing of one part touches the other one: the positions of the bridge are pairs of theirs.
    many = len(Board(one.nodes, MAX_POSITIONS).texts) * len(Board(other.nodes, MAX_POSITIONS).texts)
    if many > MAX_POSITIONS:
        raise TooMany(MAX_POSITIONS)


def bridge(one, other):
    """The promise that is some of the first promise turned round and of the second one."""
    found = bridged(one, other)
    _check_positions(one, other)
    return found


def leads(one, other):
    """Whether the first promise leads to the second one."""
    return kept_on(board_of(bridged(one, other)))[0]


def are_alike(one, other):
    """Whether each of two promises leads to the other one."""
    return leads(one, other) and leads(other, one)


def order_paper(one, other):
    """Some pair of the word `leads` and a plan of the bridge, or of the word `not` and a counter."""
    return paper_on(board_of(bridged(one, other)), PAPERS)


def is_order_paper(one, other, value):
    """Whether the value is such a pair."""
    return is_paper_on(board_of(bridged(one, other)), PAPERS, value)


def copy_table(promise):
    """The plan of the bridge from a promise to itself that answers each call by the same one."""
    bridge(promise, promise)
    board = board_of(promise)
    against = [(-Promise.read(text)).text for text in board.texts]
    table = {}
    for number, text in enumerate(board.texts):
        table[bracketed("some", [against[number], text])] = None
        # The first one of the calls that lead to a text is the least one.
        for (place, index), behind in board.ways["keeper"][number]:
            table.setdefault(bracketed("some", [against[behind], text]), ((1,) + place, index))
        for (place, index), behind in board.ways["caller"][number]:
            other = board.texts[behind]
            table.setdefault(bracketed("some", [against[number], other]), ((0,) + place, index))
    return in_order(table)


def joined_plan(one, middle, other, first, second):
    """Some plan of the bridge from one promise to another, by plans over a promise between them."""
    for promise in (one, middle, other):
        check_promise(promise)
    near, far, whole = bridged(one, middle), bridged(middle, other), bridged(one, other)
    _check_plan(near, first)
    _check_plan(far, second)
    # One promise leads to the other one over the middle: the bridge is kept, and has a plan.
    board = board_of(whole)
    return plan_table(board, dues_of_plan(board, kept_on(board)))


def _check_plan(promise, plan):
    """Raise the error of a value that is no plan of a bridge."""
    if not is_plan_on(board_of(promise), plan):
        raise InvalidPlan("this is no plan of the bridge")


def _check_promises(promises):
    """Raise the error of a tuple of promises that have no order."""
    if not 1 <= len(promises) <= MOST_PROMISES:
        raise InvalidOperation("an order has one to six promises")
    for promise in promises:
        check_promise(promise)
    # All bridges are asked for ahead of all positions: what is too great is told first.
    for one in promises:
        for other in promises:
            bridged(one, other)
    for one in promises:
        for other in promises:
            _check_positions(one, other)


class Order:
    """The order of some promises, told by their indices. It never changes."""

    def __init__(self, *promises):
        _check_promises(promises)
        self._promises = promises
        indices = range(len(promises))
        # Each promise leads to itself, and so to an equal one.
        self._pairs = tuple([
            (at, to) for at in indices for to in indices
            if promises[at] == promises[to] or leads(promises[at], promises[to])
        ])

    @property
    def promises(self):
        """The tuple of the promises."""
        return self._promises

    @property
    def pairs(self):
        """The ascending tuple of the pairs of indices of which the first one leads to the second one."""
        return self._pairs

    @property
    def classes(self):
        """The ascending tuple of the tuples of the indices of promises that are alike."""
        found = [self._alike(at) for at in range(len(self._promises))]
        return tuple([row for at, row in enumerate(found) if row[0] == at])

    def _alike(self, index):
        """The ascending tuple of the indices of the promises that are alike one."""
        return tuple([
            at for at in range(len(self._promises))
            if (at, index) in self._pairs and (index, at) in self._pairs
        ])

    def _check_index(self, index):
        """Raise the error of a value that is no index of a promise."""
        if not is_index(index, len(self._promises)):
            raise InvalidNumber(index)

    def below(self, index):
        """The ascending tuple of the indices of the promises that lead to one, and are not alike it."""
        self._check_index(index)
        alike = self._alike(index)
        return tuple([at for at, to in self._pairs if to == index and at not in alike])

    def above(self, index):
        """The ascending tuple of the indices of the promises to which one leads, and are not alike it."""
        self._check_index(index)
        alike = self._alike(index)
        return tuple([to for at, to in self._pairs if at == index and to not in alike])

    def links(self):
        """The ascending tuple of the pairs of classes, by their least indices, with none between them."""
        least = [row[0] for row in self.classes]
        found = [(at, to) for at, to in self._pairs if at in least and to in least and at != to]
        between = [(at, to) for at, middle in found for other, to in found if middle == other]
        return tuple([pair for pair in found if pair not in between])

    def with_promise(self, promise):
        """The order with one more promise at the end."""
        return Order(*self._promises, promise)

    def __len__(self):
        return len(self._promises)

    def __iter__(self):
        return iter(self._promises)

    def __contains__(self, value):
        return value in self._promises

    def __eq__(self, value):
        return isinstance(value, Order) and self._promises == value._promises

    def __str__(self):
        return f"{len(self._promises)} promises, {len(self.classes)} classes"
