"""Books of given promises, and what follows from them."""

from eitherhand.base.nodes import facts_of, joined, turned
from eitherhand.base.places import board_of, check_promise
from eitherhand.base.promises import Promise
from eitherhand.base.truth import worlds_of
from eitherhand.base.words import is_index
from eitherhand.errors import InvalidBook, InvalidNumber, NotKept
from eitherhand.keep.judging import is_paper_on
from eitherhand.keep.solving import kept_on, paper_on

MAX_GIVEN = 3
PAPERS = ("follows", "not")


def is_book(value):
    """Whether the value is a book."""
    if not isinstance(value, tuple) or not 1 <= len(value) <= MAX_GIVEN:
        return False
    return all([isinstance(one, Promise) for one in value])


def _check_book(value):
    """Raise the error of a value that is no book."""
    if not is_book(value):
        raise InvalidBook("this is no tuple of one to three promises")


def claim(book, promise):
    """The promise that is some of all given ones turned round, and of another one."""
    _check_book(book)
    check_promise(promise)
    return Promise(joined("some", [turned(given.nodes) for given in book] + [promise.nodes]))


def _does_follow(book, promise, indices):
    """Whether a promise follows from the part of a book with some indices, or is kept without any."""
    part = tuple([book[at] for at in indices])
    return kept_on(board_of(promise if part == () else claim(part, promise)))[0]


def _others(book, index):
    """The ascending tuple of all indices of a book but one."""
    return tuple([at for at in range(len(book)) if at != index])


def follows(book, promise):
    """Whether a promise follows from a book."""
    return kept_on(board_of(claim(book, promise)))[0]


def needed(book, promise):
    """The ascending tuple of the indices of the given promises that are needed for a promise."""
    board = board_of(claim(book, promise))
    if not kept_on(board)[0]:
        raise NotKept(board.texts[0])
    return tuple([at for at in range(len(book)) if not _does_follow(book, promise, _others(book, at))])


def least_parts(book, promise):
    """The ascending tuple of the indices of all parts from which a promise follows, and from none within."""
    follows(book, promise)
    found = []
    # Indices are taken as worlds are; fewer ones come first, and can be within those that come later.
    for indices in sorted(worlds_of(list(range(len(book)))), key=len):
        if not any([_is_part(one, indices) for one in found]) and _does_follow(book, promise, indices):
            found.append(indices)
    return tuple(sorted(found))


def _is_part(one, indices):
    """Whether all indices of a tuple are in another one."""
    return all([at in indices for at in one])


def book_paper(book, promise):
    """Some pair of the word `follows` and a plan of the claim, or of the word `not` and a counter."""
    return paper_on(board_of(claim(book, promise)), PAPERS)


def is_book_paper(book, promise, value):
    """Whether the value is such a pair."""
    return is_paper_on(board_of(claim(book, promise)), PAPERS, value)


def without_any(book, promise):
    """The tuple that tells of each given promise whether the promise follows from the others alone."""
    board_of(claim(book, promise))
    return tuple([_does_follow(book, promise, _others(book, at)) for at in range(len(book))])


class Book:
    """Some given promises. It never changes."""

    def __init__(self, promises):
        _check_book(promises)
        self._promises = promises

    @property
    def promises(self):
        """The tuple of the given promises."""
        return self._promises

    @property
    def facts(self):
        """The ascending tuple of the facts of all given promises."""
        return facts_of([node for given in self._promises for node in given.nodes])

    def with_given(self, promise):
        """The book with one more given promise behind the others."""
        check_promise(promise)
        return Book(self._promises + (promise,))

    def without_given(self, index):
        """The book without one of the given promises."""
        if not is_index(index, len(self._promises)):
            raise InvalidNumber(index)
        return Book(tuple([self._promises[at] for at in _others(self._promises, index)]))

    def joined(self):
        """The one promise from which just the same promises follow."""
        if len(self._promises) == 1:
            return self._promises[0]
        return Promise.of("all", self._promises)

    def keeps(self, promise):
        """Whether a promise follows."""
        return follows(self._promises, promise)

    def __len__(self):
        return len(self._promises)

    def __iter__(self):
        return iter(self._promises)

    def __getitem__(self, index):
        if not is_index(index, len(self._promises)):
            raise InvalidNumber(index)
        return self._promises[index]

    def __contains__(self, value):
        return value in self._promises

    def __eq__(self, value):
        return isinstance(value, Book) and self._promises == value._promises

    def __str__(self):
        return "; ".join([given.text for given in self._promises])
