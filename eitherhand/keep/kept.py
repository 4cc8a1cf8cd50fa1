"""Which promises are kept, and a keeper who keeps one."""

from eitherhand.base.places import board_of, called
from eitherhand.errors import InvalidCall, NotKept
from eitherhand.keep.judging import is_paper_on
from eitherhand.keep.solving import calls_where, can_wait, dues_of_plan, kept_on, paper_on, plan_table
from eitherhand.play.runs import check_undo, is_move

MAX_POSITIONS = 20000
PAPERS = ("plan", "counter")


def is_kept(promise):
    """Whether a promise is kept."""
    return kept_on(board_of(promise))[0]


def plan_for(promise):
    """Some plan of a kept promise."""
    board = board_of(promise)
    kept = kept_on(board)
    if not kept[0]:
        raise NotKept(board.texts[0])
    return plan_table(board, dues_of_plan(board, kept))


def kept_paper(promise):
    """Some pair of the word `plan` and a plan, or of the word `counter` and a counter."""
    return paper_on(board_of(promise), PAPERS)


def is_kept_paper(promise, value):
    """Whether the value is such a pair."""
    return is_paper_on(board_of(promise), PAPERS, value)


def good_calls(promise):
    """The ascending tuple of the keeper's calls that lead to kept positions."""
    board = board_of(promise)
    return calls_where(board, "keeper", 0, kept_on(board), True)


def hurting_calls(promise):
    """The ascending tuple of the caller's calls that lead to positions that are not kept."""
    board = board_of(promise)
    return calls_where(board, "caller", 0, kept_on(board), False)


def may_wait(promise):
    """Whether some plan waits at the promise."""
    board = board_of(promise)
    return can_wait(board, kept_on(board), 0)


def kept_positions(promise):
    """The ascending tuple of the texts of all positions that are kept."""
    board = board_of(promise)
    kept = kept_on(board)
    return tuple(sorted([text for number, text in enumerate(board.texts) if kept[number]]))


class Keeper:
    """A keeper in the midst of a run, who makes calls that keep the promise."""

    def __init__(self, promise):
        board = board_of(promise)
        kept = kept_on(board)
        if not kept[0]:
            raise NotKept(board.texts[0])
        self._promise = promise
        self._board = board
        self._dues = dues_of_plan(board, kept)
        self._moves = ()
        self._numbers = [0]
        self._stages = [promise]

    @property
    def promise(self):
        """The promise at first."""
        return self._promise

    @property
    def position(self):
        """The promise that is left."""
        return self._stages[-1]

    @property
    def so_far(self):
        """The tuple of the moves so far."""
        return self._moves

    def hear(self, place, index):
        """Take a call of the caller's."""
        behind = self._board.target("caller", self._numbers[-1], (place, index))
        if behind is None:
            raise InvalidCall("the caller cannot make this call")
        self._go_on("caller", (place, index), behind)

    def answer(self):
        """Make a call that keeps the promise, and return it; None if the position may wait."""
        number = self._numbers[-1]
        if number not in self._dues:
            return None
        call, behind = self._dues[number]
        self._go_on("keeper", call, behind)
        return call

    def _go_on(self, hand, call, number):
        """Add a call of a hand that leads to a number."""
        self._moves = self._moves + ((hand, call[0], call[1]),)
        self._numbers.append(number)
        self._stages.append(called(self.position, call))

    def settle(self):
        """Answer till the position may wait, and return the tuple of the calls."""
        found = []
        while self._numbers[-1] in self._dues:
            found.append(self.answer())
        return tuple(found)

    def back(self, many=1):
        """Take the last moves back."""
        check_undo(many, len(self._moves))
        left = len(self._moves) - many
        self._moves = self._moves[:left]
        self._numbers = self._numbers[:left + 1]
        self._stages = self._stages[:left + 1]

    def __len__(self):
        return len(self._moves)

    def __iter__(self):
        return iter(self._moves)

    def __contains__(self, value):
        return is_move(value) and value in self._moves

    def __eq__(self, value):
        return isinstance(value, Keeper) and self._promise == value._promise and self._moves == value._moves

    def __str__(self):
        return f"{len(self._moves)} moves, left {self.position.text}"
