"""Counters: tables by which the caller beats every play of a promise that is not kept."""

from eitherhand.base.places import board_of
from eitherhand.errors import InvalidCall, InvalidOperation, InvalidPlan
from eitherhand.keep.going import Goer, counter_dues, plan_dues, run_against, run_of_both
from eitherhand.keep.judging import is_counter_on, is_habit_on
from eitherhand.keep.solving import counter_table, dues_of_counter, in_order, kept_on, reached
from eitherhand.play.runs import first_wrong


def _goer(board, counter):
    """The caller at the promise, going by what should be a counter."""
    if not is_counter_on(board, counter):
        raise InvalidPlan("this is no counter of the promise")
    return Goer(board, "caller", counter_dues(board, counter))


def _goer_for(promise, counter, run):
    """The caller at the promise, going by a counter through what should be a sound run."""
    goer = _goer(board_of(promise), counter)
    if first_wrong(promise, run) is not None:
        raise InvalidOperation("a hand makes a call that is not there")
    return goer


def is_counter(promise, value):
    """Whether the value is a counter of the promise."""
    return is_counter_on(board_of(promise), value)


def is_habit(promise, value):
    """Whether the value is a habit of the keeper."""
    return is_habit_on(board_of(promise), value)


def counter_for(promise):
    """Some counter of a promise that is not kept."""
    board = board_of(promise)
    kept = kept_on(board)
    if kept[0]:
        raise InvalidOperation("a kept promise has no counter")
    return counter_table(board, dues_of_counter(board, kept))


def does_counter(promise, counter, run):
    """Whether a run goes by a counter."""
    goer = _goer_for(promise, counter, run)
    return goer.does_follow(run) and goer.due() is None


def due_counter(promise, counter, run):
    """The call of the caller's that is due behind a run, or None."""
    goer = _goer_for(promise, counter, run)
    if not goer.does_follow(run):
        raise InvalidOperation("a call of the caller's is not due when it comes")
    return goer.due()


def _world_at(goer, counter):
    """The world with which the caller rests."""
    return counter[goer.board.texts[goer.number]][1]


def last_world(promise, counter, run):
    """The world in which the keeper loses a run that goes by a counter."""
    goer = _goer_for(promise, counter, run)
    if not goer.does_follow(run) or goer.due() is not None:
        raise InvalidOperation("the run does not go by the counter")
    return _world_at(goer, counter)


def meeting(promise, habit, counter):
    """The run in which each hand goes by its table, and the world in which the keeper loses it."""
    board = board_of(promise)
    if not is_habit_on(board, habit):
        raise InvalidPlan("this is no habit of the keeper")
    goer = _goer(board, counter)
    run = run_of_both(Goer(board, "keeper", plan_dues(board, habit)), goer)
    return (run, _world_at(goer, counter))


def caller_wins(promise, counter, calls):
    """The run by a counter in which the keeper makes some calls, as soon as they are there."""
    goer = _goer(board_of(promise), counter)
    run = run_against(goer, calls) if isinstance(calls, tuple) else None
    if run is None:
        raise InvalidCall("this is no tuple of calls that are there at last")
    return run


class Counter:
    """A counter of a promise. It never changes."""

    def __init__(self, promise, table):
        board = board_of(promise)
        if not is_counter_on(board, table):
            raise InvalidPlan("this is no counter of the promise")
        self._promise = promise
        self._board = board
        self._told = in_order(table)
        self._dues = counter_dues(board, table)

    @property
    def promise(self):
        """The promise."""
        return self._promise

    @property
    def table(self):
        """The dict from texts of positions to what the counter tells there."""
        return dict(self._told)

    @property
    def rests(self):
        """The ascending tuple of the worlds of all entries that rest."""
        return tuple(sorted({told[1] for told in self._told.values() if told[0] == "rest"}))

    def at(self, text):
        """What the counter tells at a position."""
        if text not in self:
            raise InvalidOperation("this is no key of the counter")
        return self._told[text]

    def lean(self):
        """The counter with those positions alone to which runs that go by it come."""
        texts = [self._board.texts[number] for number in reached(self._board, "caller", self._dues)]
        return Counter(self._promise, {text: self._told[text] for text in texts})

    def __len__(self):
        return len(self._told)

    def __iter__(self):
        return iter(self._told)

    def __contains__(self, value):
        return isinstance(value, str) and value in self._told

    def __eq__(self, value):
        return isinstance(value, Counter) and self._promise == value._promise and self._told == value._told

    def __str__(self):
        return f"{len(self._told)} positions, {len(self._dues)} calls"
