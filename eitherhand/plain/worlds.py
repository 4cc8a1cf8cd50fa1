"""Worlds of promises, and what holds in them if no hand calls any more."""

from eitherhand.base.nodes import facts_of, parts_of
from eitherhand.base.places import check_promise
from eitherhand.base.promises import Promise
from eitherhand.base.truth import (
    fact_masks, holds_in, is_world_of, mask_of, mask_of_all, worlds_of,
)
from eitherhand.errors import InvalidOperation, InvalidWorld, UnknownFact

SHOWN = {"mine": ("no", 0), "yours": ("yes", 0)}


def check_world(promise, world):
    """Raise the error of a value that is no world of a promise."""
    if not is_world_of(promise.facts, world):
        raise InvalidWorld("this is no world of the promise")


def _check_fact(promise, fact):
    """Raise the error of a value that is no fact of a promise."""
    if fact not in promise.facts:
        raise UnknownFact(fact)


def _table_of(promise):
    """The list of the pairs of each world of a promise, ascending, and whether it holds there."""
    found = worlds_of(promise.facts)
    mask = mask_of(promise.nodes, fact_masks(promise.facts, found), mask_of_all(found))
    return [(world, (mask >> at) & 1 == 1) for at, world in enumerate(found)]


def _worlds_where(promise, truth):
    """The ascending tuple of the worlds in which a promise holds, or does not hold."""
    return tuple([world for world, holds in _table_of(promise) if holds == truth])


def is_world(promise, value):
    """Whether the value is a world of the promise."""
    check_promise(promise)
    return is_world_of(promise.facts, value)


def worlds(promise):
    """All worlds of a promise, in ascending order."""
    check_promise(promise)
    for world in worlds_of(promise.facts):
        yield world


def plain_form(promise):
    """The promise with `no` for each choice of the keeper's, and `yes` for each of the caller's."""
    check_promise(promise)
    return Promise(_shown(promise.nodes))


def _shown(nodes):
    """The nodes of the plain form."""
    kind, told = nodes[0]
    if kind in SHOWN:
        return (SHOWN[kind],)
    found = [(kind, told)]
    for part in parts_of(nodes):
        found.extend(_shown(part))
    return tuple(found)


def does_hold(promise, world):
    """Whether a promise holds in a world."""
    check_promise(promise)
    check_world(promise, world)
    return holds_in(promise.nodes, world)


def is_stable(promise):
    """Whether a promise holds in all its worlds."""
    check_promise(promise)
    return _worlds_where(promise, False) == ()


def false_worlds(promise):
    """The ascending tuple of the worlds in which a promise does not hold."""
    check_promise(promise)
    return _worlds_where(promise, False)


def with_truth(promise, fact, truth):
    """The promise with `yes` or `no` for a fact, turned round where the fact is denied."""
    check_promise(promise)
    _check_fact(promise, fact)
    if not isinstance(truth, bool):
        raise InvalidOperation("a fact can only be told to be true or false")
    return promise.put(fact, Promise.sure() if truth else Promise.never())


def does_depend(promise, fact):
    """Whether there are two worlds that differ by a fact, in one of which alone it holds."""
    check_promise(promise)
    _check_fact(promise, fact)
    found = worlds_of(promise.facts)
    full = mask_of_all(found)
    masks = fact_masks(promise.facts, found)
    masks[fact] = full
    with_it = mask_of(promise.nodes, masks, full)
    masks[fact] = 0
    return with_it != mask_of(promise.nodes, masks, full)


def are_equal_plain(promise, other):
    """Whether two promises, in each tuple of facts of either, hold both or neither."""
    check_promise(promise)
    check_promise(other)
    facts = facts_of(promise.nodes + other.nodes)
    found = worlds_of(facts)
    full = mask_of_all(found)
    masks = fact_masks(facts, found)
    return mask_of(promise.nodes, masks, full) == mask_of(other.nodes, masks, full)


class Plain:
    """The plain form of a promise as a table. It never changes."""

    def __init__(self, promise):
        check_promise(promise)
        self._promise = promise
        self._table = tuple([holds for _, holds in _table_of(promise)])
        self._true = _worlds_where(promise, True)

    @property
    def promise(self):
        """The promise."""
        return self._promise

    @property
    def form(self):
        """The plain form."""
        return plain_form(self._promise)

    @property
    def facts(self):
        """The ascending tuple of the facts of the promise."""
        return self._promise.facts

    @property
    def table(self):
        """The tuple that tells by the worlds in order whether the promise holds."""
        return self._table

    @property
    def true(self):
        """The ascending tuple of the worlds in which the promise holds."""
        return self._true

    @property
    def false(self):
        """The ascending tuple of the worlds in which the promise does not hold."""
        return _worlds_where(self._promise, False)

    def at(self, world):
        """Whether the promise holds in a world."""
        return does_hold(self._promise, world)

    def needed(self):
        """The ascending tuple of the facts on which it depends whether the promise holds."""
        return tuple([fact for fact in self.facts if does_depend(self._promise, fact)])

    def with_fact(self, fact, truth):
        """The table of the promise in which a fact is told to be true or false."""
        return Plain(with_truth(self._promise, fact, truth))

    def __len__(self):
        return len(self._true)

    def __iter__(self):
        return iter(self._true)

    def __contains__(self, value):
        return value in self._true

    def __eq__(self, value):
        return isinstance(value, Plain) and self.facts == value.facts and self._table == value._table

    def __str__(self):
        return f"{len(self._true)} of {len(self._table)} worlds"
