"""A shell: a promise that is played by lines, each of which has a line for an answer."""

from eitherhand.base.places import calls
from eitherhand.base.words import is_hand
from eitherhand.errors import (
    InvalidCall, InvalidOperation, InvalidWorld, NotKept, NothingToUndo, ParseError, TooMany,
)
from eitherhand.given.sets import least_facts
from eitherhand.keep.counters import counter_for
from eitherhand.keep.fewest import need
from eitherhand.keep.kept import good_calls, is_kept, plan_for
from eitherhand.order.leads import leads
from eitherhand.plain.worlds import is_stable
from eitherhand.play.runs import Play
from eitherhand.text.texts import NOTHING, read, write

MOST_DIGITS = 3
# Commands of a word alone, and the forms of what stands behind the word of others.
SINGLE = ("counter", "facts", "good", "kept", "need", "plan", "run", "show", "stable")
FORMS = {"caller": "call", "holds": "world", "keeper": "call", "leads": "promise", "promise": "promise"}


def _number_in(text):
    """The number of at most three digits with a text."""
    if not 1 <= len(text) <= MOST_DIGITS or not all(["0" <= sign <= "9" for sign in text]):
        raise ParseError(None)
    if len(text) > 1 and text[0] == "0":
        raise ParseError(None)
    return int(text)


def _command_in(line):
    """The pair of the word of a command and of the value of what stands behind it."""
    if line in SINGLE:
        return (line, None)
    word, _, told = line.partition(" ")
    if word in FORMS:
        return (word, read(FORMS[word], told))
    if word == "back":
        return (word, _number_in(told))
    if word == "calls" and is_hand(told):
        return (word, told)
    raise ParseError(None)


def _yes_or_no(truth):
    """The answer to a question."""
    return "yes" if truth else "no"


def _calls_text(found):
    """The texts of some calls, or a sign for none."""
    return " ".join([write("call", call) for call in found]) if len(found) > 0 else NOTHING


# The answers to the commands: each takes the play, and what stands behind the word, so that all
# of them can be called alike.
def _show(play, _):
    return play.position.text


def _run(play, _):
    return write("run", play.so_far)


def _keeper(play, call):
    return play.call("keeper", call[0], call[1]).text


def _caller(play, call):
    return play.call("caller", call[0], call[1]).text


def _back(play, many):
    return play.back(many).text


def _calls(play, hand):
    return _calls_text(calls(play.position, hand))


def _good(play, _):
    return _calls_text(good_calls(play.position))


def _stable(play, _):
    return _yes_or_no(is_stable(play.position))


def _kept(play, _):
    return _yes_or_no(is_kept(play.position))


def _holds(play, world):
    return _yes_or_no(play.leader(world) == "keeper")


def _need(play, _):
    return str(need(play.position))


def _plan(play, _):
    return write("plan", plan_for(play.position))


def _counter(play, _):
    return write("counter", counter_for(play.position))


def _leads(play, promise):
    return _yes_or_no(leads(play.position, promise))


def _facts(play, _):
    found = [write("world", facts) for facts in least_facts(play.position)]
    return "; ".join(found) if len(found) > 0 else "none"


# By their words the answers to all commands that need a promise.
ANSWERS = {
    "back": _back, "caller": _caller, "calls": _calls, "counter": _counter, "facts": _facts,
    "good": _good, "holds": _holds, "keeper": _keeper, "kept": _kept, "leads": _leads,
    "need": _need, "plan": _plan, "run": _run, "show": _show, "stable": _stable,
}


def _check_line(line):
    """Raise the error of a value that is no string."""
    if not isinstance(line, str):
        raise InvalidOperation("a line is a string")


class Shell:
    """A promise that is played by lines, or none at first."""

    def __init__(self):
        self._play = None
        self._lines = ()

    @property
    def position(self):
        """The promise that is left, or None."""
        return None if self._play is None else self._play.position

    @property
    def lines(self):
        """The tuple of all lines run so far that were not answered by an error."""
        return self._lines

    def run(self, line):
        """The answer to a line."""
        _check_line(line)
        try:
            answer = self._answer(line)
        except ParseError:
            return "error ParseError"
        except InvalidOperation:
            return "error InvalidOperation"
        except InvalidCall:
            return "error InvalidCall"
        except InvalidWorld:
            return "error InvalidWorld"
        except NothingToUndo:
            return "error NothingToUndo"
        except NotKept:
            return "error NotKept"
        except TooMany:
            return "error TooMany"
        self._lines = self._lines + (line,)
        return answer

    def _answer(self, line):
        """The answer to a line that can be a command."""
        word, told = _command_in(line)
        if word == "promise":
            self._play = Play(told)
            return "ok"
        if self._play is None:
            raise InvalidOperation("there is no promise")
        action = ANSWERS[word]
        return action(self._play, told)

    def run_all(self, *lines):
        """The tuple of the answers to some lines, one after the other."""
        for line in lines:
            _check_line(line)
        return tuple([self.run(line) for line in lines])

    def __len__(self):
        return len(self._lines)

    def __iter__(self):
        return iter(self._lines)

    def __eq__(self, value):
        return isinstance(value, Shell) and self._lines == value._lines

    def __str__(self):
        text = "no promise" if self._play is None else self._play.position.text
        return f"{len(self._lines)} lines, {text}"
