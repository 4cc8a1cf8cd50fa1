"""With how few calls promises are kept, and tables that show it."""

from eitherhand.base.places import board_of
from eitherhand.base.words import is_index
from eitherhand.errors import InvalidNumber, InvalidOperation, InvalidPlan, NotKept
from eitherhand.keep.going import plan_dues
from eitherhand.keep.judging import is_least_on, is_most_on, is_plan_on
from eitherhand.keep.solving import (
    LOST, calls_where, dues_of_sparing, in_order, most_due, needs_on, plan_table,
)

MAX_CALLS = 10


def _check_most(many):
    """Raise the error of a number for which there are no most tables."""
    if not is_index(many, MAX_CALLS + 1):
        raise InvalidNumber(many)


def _check_least(many):
    """Raise the error of a number for which there are no least tables."""
    if not is_index(many, LOST + 1) or many == 0:
        raise InvalidNumber(many)


def _table_within(board, found, least, most):
    """The dict from the texts of all positions whose found need is within bounds to this need."""
    return in_order({
        text: found[number] for number, text in enumerate(board.texts)
        if least <= found[number] <= most
    })


def need(promise):
    """The least number of calls with which the keeper can do, or 11."""
    return needs_on(board_of(promise))[0]


def needs(promise):
    """The dict from the texts of all positions to their needs."""
    board = board_of(promise)
    return _table_within(board, needs_on(board), 0, LOST)


def most_table(promise, many):
    """Some most table for a number."""
    board = board_of(promise)
    _check_most(many)
    found = needs_on(board)
    if found[0] > many:
        raise NotKept(board.texts[0])
    return _table_within(board, found, 0, MAX_CALLS)


def is_most_table(promise, many, value):
    """Whether the value is a most table for a number."""
    board = board_of(promise)
    _check_most(many)
    return is_most_on(board, (0, MAX_CALLS), many, value)


def least_table(promise, many):
    """Some least table for a number."""
    board = board_of(promise)
    _check_least(many)
    found = needs_on(board)
    if found[0] < many:
        raise InvalidOperation("the need of the promise is less")
    return _table_within(board, found, 1, LOST)


def is_least_table(promise, many, value):
    """Whether the value is a least table for a number."""
    board = board_of(promise)
    _check_least(many)
    return is_least_on(board, (1, LOST), many, value)


def cost(promise, plan):
    """The greatest number of a plan's calls, over all calls of the caller's where it waits."""
    board = board_of(promise)
    if not is_plan_on(board, plan):
        raise InvalidPlan("this is no plan of the promise")
    return most_due(board, plan_dues(board, plan))


def sparing_plan(promise):
    """Some plan whose cost is the need."""
    board = board_of(promise)
    found = needs_on(board)
    if found[0] == LOST:
        raise NotKept(board.texts[0])
    return plan_table(board, dues_of_sparing(board, found))


def is_sparing(promise, value):
    """Whether the value is a plan whose cost is the need."""
    board = board_of(promise)
    if not is_plan_on(board, value):
        return False
    return most_due(board, plan_dues(board, value)) == needs_on(board)[0]


def sparing_calls(promise):
    """The ascending tuple of the keeper's calls behind which the need is less by one."""
    board = board_of(promise)
    found = needs_on(board)
    return calls_where(board, "keeper", 0, found, found[0] - 1)
