"""All errors that the package raises."""


def _copied(value):
    """The value in lists and dicts of its own: what an error keeps does not change behind it."""
    if isinstance(value, list):
        return [_copied(item) for item in value]
    if isinstance(value, tuple):
        return tuple([_copied(item) for item in value])
    if isinstance(value, dict):
        return {key: _copied(value[key]) for key in value}
    return value


class PromiseError(ValueError):
    """A value is not what a call asks for."""


class InvalidWord(PromiseError):
    """A word is not one of those that can stand here."""


class InvalidPromise(PromiseError):
    """There is no such promise, or a value is none."""


class InvalidPlace(PromiseError):
    """A value is no place of a promise."""


class InvalidCall(PromiseError):
    """A call cannot be made."""


class InvalidRun(PromiseError):
    """A value is no run, or none that can be played."""


class InvalidWorld(PromiseError):
    """A value is no world of a promise."""


class InvalidPlan(PromiseError):
    """A value is no plan, counter or habit."""


class InvalidBook(PromiseError):
    """A value is no book of promises."""


class InvalidOperation(PromiseError):
    """Something is asked that cannot be done with these values."""


class ParseError(PromiseError):
    """A text cannot be read; `line` is the index of its first wrong item, or None."""

    def __init__(self, line):
        super().__init__("the text cannot be read")
        self.line = _copied(line)


class UnknownFact(KeyError):
    """What is `asked` for is not there."""

    def __init__(self, asked):
        super().__init__("what is asked for is not there")
        self.asked = _copied(asked)


class NotKept(LookupError):
    """What is `wanted` of a promise is not kept."""

    def __init__(self, wanted):
        super().__init__("the promise is not kept")
        self.wanted = _copied(wanted)


class NothingToUndo(IndexError):
    """There are fewer steps than the `amount` to take back or to do again."""

    def __init__(self, amount):
        super().__init__("there are fewer steps than that")
        self.amount = _copied(amount)


class TooMany(OverflowError):
    """More things are met than the `limit`."""

    def __init__(self, limit):
        super().__init__("there are more than the limit")
        self.limit = _copied(limit)


class Refused(ArithmeticError):
    """A change is refused for a `cause`."""

    def __init__(self, cause):
        super().__init__("the change is refused")
        self.cause = _copied(cause)


class InvalidNumber(RuntimeError):
    """A `number` is none that can stand here."""

    def __init__(self, number):
        super().__init__("the number cannot stand here")
        self.number = _copied(number)
