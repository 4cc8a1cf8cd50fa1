"""Runs: moves of both hands, one behind the other."""

from eitherhand.base.places import board_of, check_hand, check_promise
from eitherhand.base.promises import Promise
from eitherhand.base.truth import holds_in
from eitherhand.base.ways import called_in, calls_in, hand_in
from eitherhand.base.words import is_hand, is_index, is_integer, other_hand
from eitherhand.errors import InvalidCall, InvalidNumber, InvalidRun, NothingToUndo
from eitherhand.plain.worlds import check_world

MAX_MOVES = 12
HANDS = ("caller", "keeper")
MOST_STEPS = 8
MOST_PARTS = 4


def check_run(value):
    """Raise the error of a value that is no run."""
    if not is_run(value):
        raise InvalidRun("this is no run")


def check_undo(many, made):
    """Raise the error of a number of moves that cannot be taken back."""
    if not is_integer(many) or many < 0:
        raise InvalidNumber(many)
    if many > made:
        raise NothingToUndo(many)


def is_move(value):
    """Whether the value is a move."""
    if not isinstance(value, tuple) or len(value) != 3:
        return False
    hand, place, index = value
    if not is_hand(hand) or not isinstance(place, tuple) or len(place) > MOST_STEPS:
        return False
    return is_index(index, MOST_PARTS) and all([is_index(step, MOST_PARTS) for step in place])


def is_run(value):
    """Whether the value is a run."""
    if not isinstance(value, tuple) or len(value) > MAX_MOVES:
        return False
    return all([is_move(move) for move in value])


def _moves_in(nodes, hand):
    """The ascending tuple of the moves of a hand that are there."""
    return tuple([(hand, place, index) for place, index in calls_in(nodes, hand)])


def moves_at(promise, hand):
    """The ascending tuple of the moves of a hand that are there."""
    check_promise(promise)
    check_hand(hand)
    return _moves_in(promise.nodes, hand)


def _is_there(nodes, move):
    """Whether a move is there."""
    hand, place, index = move
    return hand_in(nodes, (place, index)) == hand


def _behind(nodes, move):
    """The nodes of the position behind a move that is there."""
    _, place, index = move
    return called_in(nodes, (place, index))


def _sound_part(nodes, run):
    """The pair of the number of moves ahead of the first wrong one, and of the nodes behind them."""
    made = 0
    while made < len(run) and _is_there(nodes, run[made]):
        nodes = _behind(nodes, run[made])
        made = made + 1
    return (made, nodes)


def first_wrong(promise, run):
    """The index of the first move that is not there, or None."""
    check_promise(promise)
    check_run(run)
    made, _ = _sound_part(promise.nodes, run)
    return made if made < len(run) else None


def played(promise, run):
    """The position behind a sound run."""
    check_promise(promise)
    check_run(run)
    made, nodes = _sound_part(promise.nodes, run)
    if made < len(run):
        raise InvalidRun("a move of the run is not there")
    return Promise(nodes)


def winner(promise, run, world):
    """The hand that wins a run in a world of the promise at first."""
    check_promise(promise)
    check_run(run)
    check_world(promise, world)
    made, nodes = _sound_part(promise.nodes, run)
    if made < len(run):
        return other_hand(run[made][0])
    return "keeper" if holds_in(nodes, world) else "caller"


def moves_of(hand, run):
    """The tuple of the moves of a hand in a run."""
    return tuple([move for move in run if move[0] == hand])


def _ahead(hand, run):
    """The list that tells how many moves of the other hand are ahead of each move of a hand."""
    own = [at for at, move in enumerate(run) if move[0] == hand]
    return [at - made for made, at in enumerate(own)]


def is_delay(hand, run, other):
    """Whether another run is a delay of a run for a hand."""
    check_hand(hand)
    check_run(run)
    check_run(other)
    if any([moves_of(each, run) != moves_of(each, other) for each in HANDS]):
        return False
    least = _ahead(hand, run)
    return all([many >= least[at] for at, many in enumerate(_ahead(hand, other))])


def delays(hand, run):
    """All delays of a run for a hand, in ascending order."""
    check_hand(hand)
    check_run(run)
    own = moves_of(hand, run)
    others = moves_of(other_hand(hand), run)
    least = _ahead(hand, run)
    begun = [()]
    while begun:
        part = begun.pop()
        if len(part) == len(run):
            yield part
        made = len(moves_of(hand, part))
        heard = len(part) - made
        longer = []
        if made < len(own) and heard >= least[made]:
            longer.append(part + (own[made],))
        if heard < len(others):
            longer.append(part + (others[heard],))
        # What is put there last is taken next: it has to be the lesser one.
        begun.extend(sorted(longer, reverse=True))


class Stages:
    """Positions by numbers, as they are met: far fewer than the runs that lead through them."""

    def __init__(self, nodes):
        self._met = [nodes]
        self._numbers = {nodes: 0}
        self._onward = {}

    def ways_on(self, number):
        """The pairs of each move that is there, the greatest first, and of the number behind it."""
        if number not in self._onward:
            nodes = self._met[number]
            moves = _moves_in(nodes, "caller") + _moves_in(nodes, "keeper")
            self._onward[number] = [
                (move, self._number_of(_behind(nodes, move))) for move in reversed(list(moves))
            ]
        return self._onward[number]

    def _number_of(self, nodes):
        """The number of a position, which is met now or was met before."""
        if nodes not in self._numbers:
            self._numbers[nodes] = len(self._met)
            self._met.append(nodes)
        return self._numbers[nodes]


def sound_runs(promise, most):
    """All sound runs of at most so many moves, in ascending order."""
    check_promise(promise)
    if not is_index(most, MAX_MOVES + 1):
        raise InvalidNumber(most)
    stages = Stages(promise.nodes)
    begun = [((), 0)]
    while begun:
        run, number = begun.pop()
        yield run
        if len(run) < most:
            begun.extend([(run + (move,), behind) for move, behind in stages.ways_on(number)])


def count_runs(promise):
    """The number of all sound runs of any length."""
    board = board_of(promise)
    counts = [1 for _ in board.texts]
    for number in reversed(range(len(counts))):
        for hand in HANDS:
            for _, behind in board.ways[hand][number]:
                counts[number] = counts[number] + counts[behind]
    return counts[0]


class Play:
    """A run that is played move by move."""

    def __init__(self, promise):
        check_promise(promise)
        self._promise = promise
        self._moves = ()
        self._stages = [promise]

    @property
    def promise(self):
        """The promise at first."""
        return self._promise

    @property
    def position(self):
        """The position now."""
        return self._stages[-1]

    @property
    def so_far(self):
        """The run of the moves so far."""
        return self._moves

    def call(self, hand, place, index):
        """Make a move, and return the position behind it."""
        move = (hand, place, index)
        if not is_move(move) or not _is_there(self.position.nodes, move):
            raise InvalidCall("this move is not there")
        self._stages.append(Promise(_behind(self.position.nodes, move)))
        self._moves = self._moves + (move,)
        return self.position

    def back(self, many=1):
        """Take the last moves back, and return the position then."""
        check_undo(many, len(self._moves))
        left = len(self._moves) - many
        self._moves = self._moves[:left]
        self._stages = self._stages[:left + 1]
        return self.position

    def moves(self, hand):
        """The ascending tuple of the moves of a hand that are there now."""
        return moves_at(self.position, hand)

    def is_over(self):
        """Whether no move is there."""
        return all([len(self.moves(hand)) == 0 for hand in HANDS])

    def leader(self, world):
        """The hand that wins in a world if the run ends now."""
        check_world(self._promise, world)
        return "keeper" if holds_in(self.position.nodes, world) else "caller"

    def __len__(self):
        return len(self._moves)

    def __iter__(self):
        return iter(self._moves)

    def __contains__(self, value):
        return is_move(value) and value in self._moves

    def __eq__(self, value):
        return isinstance(value, Play) and self._promise == value._promise and self._moves == value._moves

    def __str__(self):
        return f"{self.position.text}, {len(self._moves)} moves"
