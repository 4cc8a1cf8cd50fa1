"""A live book: promises with names, which are changed while pinned sayings hold."""

from eitherhand.base.places import called, check_promise
from eitherhand.base.promises import Promise
from eitherhand.base.words import is_fact
from eitherhand.errors import InvalidBook, InvalidOperation, InvalidWord, TooMany, UnknownFact
from eitherhand.play.runs import check_undo
from eitherhand.use.sayings import (
    check_sayings, does_saying_hold, is_name_in, is_saying, meaning, news_of, renamed_saying,
)

MAX_NAMES = 6
MAX_SAYINGS = 10
MAX_CHANGES = 200
# How many arguments each change takes.
CHANGES = {"call": 3, "pin": 1, "put": 2, "remove": 1, "rename": 2, "unpin": 1}


def _are_promises(value):
    """Whether the value is a dict from one to six names to promises."""
    if not isinstance(value, dict) or not 1 <= len(value) <= MAX_NAMES:
        return False
    return all([is_fact(name) and isinstance(value[name], Promise) for name in value])


def _is_change(value):
    """Whether the value is a tuple of the name of a change and so many arguments as it takes."""
    if not isinstance(value, tuple) or len(value) == 0 or not isinstance(value[0], str):
        return False
    return value[0] in CHANGES and len(value) == 1 + CHANGES[value[0]]


def _ordered(promises):
    """A dict with ascending names."""
    return {name: promises[name] for name in sorted(list(promises))}


class Project:
    """Promises with names, which are changed by calls."""

    def __init__(self, promises):
        if not _are_promises(promises):
            raise InvalidBook("this is no dict from one to six names to promises")
        # None of these is changed in place, so twins and iterations can share them.
        self._promises = _ordered(promises)
        self._sayings = ()
        self._words = ()
        self._stages = ((self._promises, ()),)
        self._made = 0

    @property
    def promises(self):
        """The dict from the names, ascending, to the promises."""
        return dict(self._promises)

    @property
    def sayings(self):
        """The tuple of the pinned sayings, in the order in which they were pinned."""
        return self._sayings

    @property
    def log(self):
        """The tuple of the words of the changes that are in effect."""
        return self._words[:self._made]

    def _check_name(self, name):
        """Raise the error of a value that is no name of a promise."""
        if not is_name_in(self._promises, name):
            raise UnknownFact(name)

    def _check_saying(self, saying):
        """Raise the error of a value that is no saying about promises that are there."""
        if not is_saying(self._promises, saying):
            raise InvalidOperation("this is no saying about names that are there")

    def _change(self, word, promises, sayings):
        """Make a change that leads to other promises and sayings, and return the news."""
        if len(sayings) > MAX_SAYINGS:
            raise TooMany(MAX_SAYINGS)
        if self._made == MAX_CHANGES:
            raise TooMany(MAX_CHANGES)
        if len(promises) > MAX_NAMES:
            raise TooMany(MAX_NAMES)
        held = [meaning(self._promises, saying) for saying in self._sayings]
        check_sayings(promises, sayings, held)
        news = news_of(self._promises, promises)
        self._words = self.log + (word,)
        self._stages = self._stages[:self._made + 1] + ((_ordered(promises), sayings),)
        self._turn_to(self._made + 1)
        return news

    def _turn_to(self, made):
        """Take as the state now the one behind so many changes."""
        self._made = made
        self._promises, self._sayings = self._stages[made]

    def put(self, name, promise):
        """Add or exchange a promise."""
        if not is_fact(name):
            raise InvalidWord("this is no name")
        check_promise(promise)
        return self._change("put", {**self._promises, name: promise}, self._sayings)

    def remove(self, name):
        """Remove a promise."""
        self._check_name(name)
        if len(self._promises) == 1:
            raise InvalidBook("the last promise cannot be removed")
        left = {other: self._promises[other] for other in self._promises if other != name}
        return self._change("remove", left, self._sayings)

    def rename(self, name, other):
        """Give a promise another name, also in the sayings."""
        self._check_name(name)
        if not is_fact(other):
            raise InvalidWord("this is no name")
        if other != name and other in self._promises:
            raise InvalidOperation("another promise has this name")
        behind = {other if one == name else one: self._promises[one] for one in self._promises}
        sayings = tuple([renamed_saying(saying, name, other) for saying in self._sayings])
        return self._change("rename", behind, sayings)

    def call(self, name, place, index):
        """Make a call of either hand in a promise."""
        self._check_name(name)
        position = called(self._promises[name], (place, index))
        return self._change("call", {**self._promises, name: position}, self._sayings)

    def pin(self, saying):
        """Pin a saying, which holds from now on."""
        self._check_saying(saying)
        if saying in self._sayings:
            raise InvalidOperation("the saying is pinned already")
        return self._change("pin", self._promises, self._sayings + (saying,))

    def unpin(self, saying):
        """Let a saying go."""
        self._check_saying(saying)
        if saying not in self._sayings:
            raise InvalidOperation("the saying is not pinned")
        left = tuple([other for other in self._sayings if other != saying])
        return self._change("unpin", self._promises, left)

    def does_hold(self, saying):
        """Whether a saying holds."""
        self._check_saying(saying)
        return does_saying_hold(self._promises, saying)

    def trial(self, *changes):
        """The tuple of the news that changes would return one after the other."""
        if not all([_is_change(change) for change in changes]):
            raise InvalidOperation("this is no tuple of the name of a change and its arguments")
        twin = self.twin()
        return tuple([_news_by(twin, change) for change in changes])

    def undo(self, *, many=1):
        """Take back the last changes, and return the news."""
        check_undo(many, self._made)
        return self._go_to(self._made - many)

    def redo(self, *, many=1):
        """Do again the changes that were taken back last, and return the news."""
        check_undo(many, len(self._words) - self._made)
        return self._go_to(self._made + many)

    def _go_to(self, made):
        """Go to the state behind so many changes, and return the news."""
        promises, _ = self._stages[made]
        news = news_of(self._promises, promises)
        self._turn_to(made)
        return news

    def twin(self):
        """An equal project that changes by itself."""
        found = Project(self._promises)
        found._words = self._words
        found._stages = self._stages
        found._turn_to(self._made)
        return found

    def __len__(self):
        return len(self._promises)

    def __iter__(self):
        return iter(self._promises)

    def __contains__(self, value):
        return is_name_in(self._promises, value)

    def __eq__(self, value):
        return (
            isinstance(value, Project) and self._promises == value._promises
            and self._sayings == value._sayings
        )

    def __str__(self):
        return f"{len(self._promises)} promises, {len(self._sayings)} sayings"


def _news_by(project, change):
    """The news of a change of a project, told as a tuple."""
    word = change[0]
    if word == "put":
        return project.put(change[1], change[2])
    if word == "remove":
        return project.remove(change[1])
    if word == "rename":
        return project.rename(change[1], change[2])
    if word == "call":
        return project.call(change[1], change[2], change[3])
    return project.pin(change[1]) if word == "pin" else project.unpin(change[1])
