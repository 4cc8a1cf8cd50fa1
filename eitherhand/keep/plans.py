"""Plans: tables by which the keeper keeps a promise, whatever the caller calls."""

from eitherhand.base.places import board_of
from eitherhand.errors import InvalidCall, InvalidOperation, InvalidPlan
from eitherhand.keep.going import Goer, plan_dues, run_against
from eitherhand.keep.judging import is_plan_on
from eitherhand.keep.solving import in_order, most_due, plan_table
from eitherhand.play.runs import first_wrong


def _goer(board, plan):
    """The keeper at the promise, going by what should be a plan."""
    if not is_plan_on(board, plan):
        raise InvalidPlan("this is no plan of the promise")
    return Goer(board, "keeper", plan_dues(board, plan))


def _goer_for(promise, plan, run):
    """The keeper at the promise, going by a plan through what should be a sound run."""
    goer = _goer(board_of(promise), plan)
    if first_wrong(promise, run) is not None:
        raise InvalidOperation("a hand makes a call that is not there")
    return goer


def _follow(goer, run):
    """Let the keeper go through a run in which each move of the keeper's should be due."""
    if not goer.does_follow(run):
        raise InvalidOperation("a call of the keeper's is not due when it comes")


def is_plan(promise, value):
    """Whether the value is a plan of the promise."""
    return is_plan_on(board_of(promise), value)


def does_go_by(promise, plan, run):
    """Whether a run goes by a plan."""
    goer = _goer_for(promise, plan, run)
    return goer.does_follow(run) and goer.due() is None


def due_call(promise, plan, run):
    """The call of the keeper's that is due behind a run, or None."""
    goer = _goer_for(promise, plan, run)
    _follow(goer, run)
    return goer.due()


def taken_up(promise, plan, run):
    """The text of the position where the keeper is, and the tuple of the calls not taken up."""
    goer = _goer_for(promise, plan, run)
    _follow(goer, run)
    return (goer.board.texts[goer.number], tuple(goer.line))


def answered(promise, plan, calls):
    """The run that goes by a plan in which the caller makes some calls, as soon as they are there."""
    goer = _goer(board_of(promise), plan)
    run = run_against(goer, calls) if isinstance(calls, tuple) else None
    if run is None:
        raise InvalidCall("this is no tuple of calls that are there at last")
    return run


class Plan:
    """A plan of a promise. It never changes."""

    def __init__(self, promise, table):
        board = board_of(promise)
        if not is_plan_on(board, table):
            raise InvalidPlan("this is no plan of the promise")
        self._promise = promise
        self._board = board
        self._told = in_order(table)
        self._dues = plan_dues(board, table)

    @property
    def promise(self):
        """The promise."""
        return self._promise

    @property
    def table(self):
        """The dict from texts of positions to what the plan tells there."""
        return dict(self._told)

    @property
    def start(self):
        """What the plan tells at the promise."""
        return self._told[self._promise.text]

    def at(self, text):
        """What the plan tells at a position."""
        if text not in self:
            raise InvalidOperation("this is no key of the plan")
        return self._told[text]

    def lean(self):
        """The plan with those positions alone to which runs that go by it come."""
        return Plan(self._promise, plan_table(self._board, self._dues))

    def most_calls(self):
        """The greatest number of the keeper's calls in a run that goes by the plan."""
        return most_due(self._board, self._dues)

    def runs(self):
        """All runs without waiting for what is due that go by the plan, in ascending order."""
        begun = [((), 0)]
        while begun:
            run, number = begun.pop()
            while number in self._dues:
                call, number = self._dues[number]
                run = run + (("keeper", call[0], call[1]),)
            yield run
            # The caller's last call is put there first, since what comes last is taken next.
            for call, behind in reversed(list(self._board.ways["caller"][number])):
                begun.append((run + (("caller", call[0], call[1]),), behind))

    def __len__(self):
        return len(self._told)

    def __iter__(self):
        return iter(self._told)

    def __contains__(self, value):
        return isinstance(value, str) and value in self._told

    def __eq__(self, value):
        return isinstance(value, Plan) and self._promise == value._promise and self._told == value._told

    def __str__(self):
        return f"{len(self._told)} positions, {len(self._dues)} calls"
