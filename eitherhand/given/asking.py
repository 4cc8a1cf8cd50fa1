"""Keepers who ask for facts amid the play, and papers that show whether that keeps a promise."""

from eitherhand.base.places import board_of, called, check_promise
from eitherhand.base.words import is_index
from eitherhand.errors import InvalidCall, InvalidNumber, InvalidOperation, NotKept, UnknownFact
from eitherhand.given.states import (
    MOST_QUESTIONS, Asking, asking_table, is_asking_counter, is_asking_plan,
)

MAX_KEYS = 20000


def _asking_for(promise, most):
    """The states of a promise, where so many questions can be asked."""
    check_promise(promise)
    if not is_index(most, MOST_QUESTIONS + 1):
        raise InvalidNumber(most)
    return Asking(board_of(promise))


def is_kept_asking(promise, most):
    """Whether a promise is kept by asking at most so often."""
    return _asking_for(promise, most).is_kept((0, (), most))


def questions(promise):
    """The least number of questions by which a promise is kept, or None."""
    asking = Asking(board_of(promise))
    # Behind a question for each fact there is none left to ask.
    for most in range(len(promise.facts) + 1):
        if asking.is_kept((0, (), most)):
            return most
    return None


def asking_paper(promise, most):
    """Some pair of the word `plan` and an asking plan, or of the word `counter` and an asking counter."""
    asking = _asking_for(promise, most)
    start = (0, (), most)
    return ("plan" if asking.is_kept(start) else "counter", asking_table(asking, start, MAX_KEYS))


def is_asking_paper(promise, most, value):
    """Whether the value is such a pair."""
    asking = _asking_for(promise, most)
    if not isinstance(value, tuple) or len(value) != 2:
        return False
    word, table = value
    if word == "plan":
        return is_asking_plan(asking, (0, (), most), table)
    return word == "counter" and is_asking_counter(asking, (0, (), most), table)


def good_questions(promise, most):
    """The ascending tuple of the facts for which the keeper can ask first."""
    return _asking_for(promise, most).good_facts((0, (), most))


class Asker:
    """A keeper in the midst of a run, who makes calls and asks for facts."""

    def __init__(self, promise, most):
        asking = _asking_for(promise, most)
        if not asking.is_kept((0, (), most)):
            raise NotKept(promise.text)
        self._promise = promise
        self._asking = asking
        self._position = promise
        self._state = (0, (), most)

    @property
    def promise(self):
        """The promise at first."""
        return self._promise

    @property
    def position(self):
        """The promise that is left."""
        return self._position

    @property
    def known(self):
        """What is known: the ascending tuple of pairs of a fact and its truth."""
        return self._state[1]

    @property
    def left(self):
        """How many questions are left."""
        return self._state[2]

    def wish(self):
        """None to wait, a call, or a fact to ask for: what some plan tells at this state."""
        told, _ = self._asking.planned(self._state)
        return told

    def hear(self, place, index):
        """Take a call of the caller's."""
        behind = self._asking.behind_call("caller", self._state, (place, index))
        if behind is None:
            raise InvalidCall("the caller cannot make this call")
        self._state = behind
        self._position = called(self._position, (place, index))

    def tell(self, fact, truth):
        """Take the answer to a question."""
        if fact not in self._promise.facts:
            raise UnknownFact(fact)
        answers = self._asking.behind_answers(self._state)
        if fact not in answers or not isinstance(truth, bool):
            raise InvalidOperation("this is no answer to a question that can be asked")
        one, other = answers[fact]
        behind = one if truth else other
        if not self._asking.is_kept(behind):
            raise NotKept(self._position.text)
        self._state = behind

    def go(self):
        """Make the call that is wished, and return it, or None."""
        call = self.wish()
        if not isinstance(call, tuple):
            return None
        self._state = self._asking.behind_call("keeper", self._state, call)
        self._position = called(self._position, call)
        return call

    def __eq__(self, value):
        return (
            isinstance(value, Asker) and self._promise == value._promise
            and self._position == value._position and self._state[1:] == value._state[1:]
        )

    def __str__(self):
        return f"{self._position.text}, {len(self.known)} known, {self.left} left"
