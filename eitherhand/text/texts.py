"""Texts of promises, calls, worlds, runs, plans and counters, and their values."""

from eitherhand.base.promises import Promise
from eitherhand.base.words import is_fact, is_fact_tuple
from eitherhand.errors import InvalidOperation, InvalidWord, ParseError
from eitherhand.play.runs import MAX_MOVES, is_move, is_run

FORMS = ("call", "counter", "plan", "promise", "run", "world")
NOTHING = "-"
DIGITS = ("0", "1", "2", "3")
HAND_SIGNS = {"caller": "c", "keeper": "k"}
SIGN_HANDS = {"c": "caller", "k": "keeper"}


def _check_form(form):
    """Raise the error of a value that is no word of a form."""
    if form not in FORMS:
        raise InvalidWord("this is no form that has texts")


def _is_call_value(value):
    """Whether the value is a pair of a place and an index that a move can have."""
    return isinstance(value, tuple) and is_move(("keeper",) + value)


def _is_promise_text(value):
    """Whether the value is the text of a promise."""
    try:
        Promise.read(value)
    except ParseError:
        return False
    return True


def _is_plan_entry(value):
    """Whether the value can stand in a plan."""
    return value is None or _is_call_value(value)


def _is_counter_entry(value):
    """Whether the value can stand in a counter."""
    if not isinstance(value, tuple) or len(value) < 2:
        return False
    if value[0] == "rest":
        return len(value) == 2 and is_fact_tuple(value[1])
    return value[0] == "call" and _is_call_value(value[1:])


def _is_table(value):
    """Whether the value is a dict, not empty, from texts of promises."""
    if not isinstance(value, dict) or len(value) == 0:
        return False
    return all([_is_promise_text(key) for key in value])


def _has_form(form, value):
    """Whether the value has a form."""
    if form == "promise":
        return isinstance(value, Promise)
    if form == "call":
        return _is_call_value(value)
    if form == "world":
        return is_fact_tuple(value)
    if form == "run":
        return is_run(value)
    if not _is_table(value):
        return False
    if form == "plan":
        return all([_is_plan_entry(told) for told in value.values()])
    return all([_is_counter_entry(told) for told in value.values()])


def _call_text(call):
    """The text of a call."""
    place, index = call
    return ".".join([str(at) for at in place + (index,)])


def _world_text(world):
    """The text of a world."""
    return " ".join(world) if len(world) > 0 else NOTHING


def _run_text(run):
    """The text of a run."""
    moves = [HAND_SIGNS[hand] + _call_text((place, index)) for hand, place, index in run]
    return " ".join(moves) if len(moves) > 0 else NOTHING


def _entry_text(form, told):
    """The text of what a plan or a counter tells."""
    if form == "plan":
        return "wait" if told is None else _call_text(told)
    return "rest " + _world_text(told[1]) if told[0] == "rest" else "call " + _call_text(told[1:])


def write(form, value):
    """The text of a value of a form."""
    _check_form(form)
    if not _has_form(form, value):
        raise InvalidOperation("the value has not this form")
    if form == "promise":
        return value.text
    if form == "call":
        return _call_text(value)
    if form == "world":
        return _world_text(value)
    if form == "run":
        return _run_text(value)
    return "; ".join([key + ": " + _entry_text(form, value[key]) for key in sorted(list(value))])


def _call_in(text):
    """The call with a text."""
    words = text.split(".")
    if not all([word in DIGITS for word in words]):
        raise ParseError(None)
    numbers = tuple([int(word) for word in words])
    call = (numbers[:-1], numbers[-1])
    if not _is_call_value(call):
        raise ParseError(None)
    return call


def _fact_in(text):
    """The fact with a text."""
    if not is_fact(text):
        raise ParseError(None)
    return text


def _move_in(text):
    """The move with a text."""
    if text[:1] not in SIGN_HANDS:
        raise ParseError(None)
    place, index = _call_in(text[1:])
    return (SIGN_HANDS[text[:1]], place, index)


def _entry_in(form, text):
    """What a plan or a counter tells with a text."""
    if form == "plan":
        return None if text == "wait" else _call_in(text)
    word, _, told = text.partition(" ")
    if word == "rest":
        return ("rest", read("world", told))
    if word == "call":
        return ("call",) + _call_in(told)
    raise ParseError(None)


def _pair_in(form, text):
    """The pair of a text of a promise and of what a plan or a counter tells there."""
    key, _, told = text.partition(": ")
    return (Promise.read(key).text, _entry_in(form, told))


def _item_in(form, text):
    """The value of one item of a text of a form."""
    if form == "promise":
        return Promise.read(text)
    if form == "call":
        return _call_in(text)
    if form == "world":
        return _fact_in(text)
    return _move_in(text) if form == "run" else _pair_in(form, text)


def _items_of(form, text):
    """The list of the items of a text of a form."""
    if form in ("promise", "call"):
        return [text]
    return text.split(" ") if form in ("world", "run") else text.split("; ")


def _does_follow(form, found):
    """Whether the last one of the values of items can stand behind the one ahead."""
    if form == "run":
        return len(found) <= MAX_MOVES
    if len(found) < 2:
        return True
    return found[-2] < found[-1] if form == "world" else found[-2][0] < found[-1][0]


def read(form, text):
    """The value of a text of a form."""
    _check_form(form)
    if not isinstance(text, str):
        raise ParseError(None)
    if form in ("world", "run") and text == NOTHING:
        return ()
    found = []
    for at, item in enumerate(_items_of(form, text)):
        try:
            found.append(_item_in(form, item))
        except ParseError:
            raise ParseError(at) from None
        if not _does_follow(form, found):
            raise ParseError(at)
    if form in ("promise", "call"):
        return found[0]
    return tuple(found) if form in ("world", "run") else dict(found)


def is_written(form, value):
    """Whether the value is a text of a form."""
    try:
        read(form, value)
    except ParseError:
        return False
    return True
