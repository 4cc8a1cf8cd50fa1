"""Places, calls and positions of promises."""

from eitherhand.base.boards import Board
from eitherhand.base.promises import Promise
from eitherhand.base.ways import (
    called_in, calls_in, exchanged_from, hand_in, part_from, places_in, start_at, surface_of,
)
from eitherhand.base.words import is_hand
from eitherhand.errors import InvalidCall, InvalidOperation, InvalidPlace, InvalidPromise

MAX_POSITIONS = 20000
PLAIN = ("fact", "no", "not", "yes")


def check_promise(value):
    """Raise the error of a value that is no promise."""
    if not isinstance(value, Promise):
        raise InvalidPromise("this is no promise")


def check_hand(value):
    """Raise the error of a value that is no hand."""
    if not is_hand(value):
        raise InvalidOperation("this is no hand")


def board_of(promise):
    """The board of a promise, with the errors of a value that is none or has too many positions."""
    check_promise(promise)
    return Board(promise.nodes, MAX_POSITIONS)


def _start_of(nodes, place):
    """The index at which the part at a place starts."""
    start = start_at(nodes, place)
    if start is None:
        raise InvalidPlace("this is no place of the promise")
    return start


def _hand_that_can(nodes, call):
    """The hand that can make a call."""
    hand = hand_in(nodes, call)
    if hand is None:
        raise InvalidCall("this call cannot be made")
    return hand


def surface(promise):
    """The ascending tuple of all places of a promise."""
    check_promise(promise)
    return tuple([place for place, _ in surface_of(promise.nodes)])


def part_at(promise, place):
    """The promise that stands at a place."""
    check_promise(promise)
    return Promise(part_from(promise.nodes, _start_of(promise.nodes, place)))


def calls(promise, hand):
    """The ascending tuple of the calls that a hand can make."""
    check_promise(promise)
    check_hand(hand)
    return calls_in(promise.nodes, hand)


def is_call(promise, value):
    """Whether the value is a call that some hand can make."""
    check_promise(promise)
    return hand_in(promise.nodes, value) is not None


def hand_of(promise, call):
    """The hand that can make a call."""
    check_promise(promise)
    return _hand_that_can(promise.nodes, call)


def called(promise, call):
    """The promise that comes of a call."""
    check_promise(promise)
    _hand_that_can(promise.nodes, call)
    return Promise(called_in(promise.nodes, call))


def replaced(promise, place, other):
    """The promise with another one at a place."""
    check_promise(promise)
    start = _start_of(promise.nodes, place)
    if not isinstance(other, Promise):
        raise InvalidOperation("only a promise can stand at a place")
    return Promise(exchanged_from(promise.nodes, start, other.nodes))


def positions(promise):
    """The ascending tuple of the texts of all positions."""
    return tuple(sorted(board_of(promise).texts))


def is_position(promise, value):
    """Whether the value is the text of a position."""
    return board_of(promise).number_of(value) is not None


def calls_to(promise, text):
    """Some calls, each a triple (hand, place, index), that lead to the position with a text."""
    board = board_of(promise)
    goal = board.number_of(text)
    if goal is None:
        raise InvalidOperation("this is no text of a position")
    return board.way_to(goal)


class Surface:
    """What can be seen of a promise at once. It never changes."""

    def __init__(self, promise):
        self._places = surface(promise)
        self._promise = promise

    @property
    def promise(self):
        """The promise."""
        return self._promise

    @property
    def places(self):
        """The ascending tuple of all places."""
        return self._places

    @property
    def mine(self):
        """The ascending tuple of the places of the keeper's choices."""
        return places_in(self._promise.nodes, ("mine",))

    @property
    def yours(self):
        """The ascending tuple of the places of the caller's choices."""
        return places_in(self._promise.nodes, ("yours",))

    @property
    def plain(self):
        """The ascending tuple of the places of nodes without parts."""
        return places_in(self._promise.nodes, PLAIN)

    def behind(self, call):
        """The surface of what comes of a call."""
        return Surface(called(self._promise, call))

    def moves(self, hand):
        """The dict from the calls of a hand to the promises that come of them."""
        return {call: called(self._promise, call) for call in calls(self._promise, hand)}

    def is_over(self):
        """Whether no hand can call."""
        return len(places_in(self._promise.nodes, ("mine", "yours"))) == 0

    def __len__(self):
        return len(self._places)

    def __iter__(self):
        return iter(self._places)

    def __contains__(self, value):
        return start_at(self._promise.nodes, value) is not None

    def __getitem__(self, place):
        return part_at(self._promise, place)

    def __eq__(self, value):
        return isinstance(value, Surface) and self._promise == value._promise

    def __str__(self):
        return f"{len(self._places)} places, {len(self.mine)} mine, {len(self.yours)} yours"
