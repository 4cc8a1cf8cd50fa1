"""Promises, built of plain facts by the choices of two hands."""

from eitherhand.base.nodes import (
    LEAST_PARTS, MOST_PARTS, choices_of, depth_of, facts_of, has_part, is_node, joined, nodes_in,
    parts_of, put_in, renamed_in, text_of, turned,
)
from eitherhand.base.words import is_fact, is_index
from eitherhand.errors import (
    InvalidNumber, InvalidOperation, InvalidPromise, InvalidWord, ParseError,
)

MAX_NODES = 40
MAX_CHOICES = 10
MAX_FACTS = 6
MAX_DEPTH = 8
KINDS = ("all", "mine", "some", "yours")


def _are_nodes(value):
    """Whether the value is the tuple of the nodes of a promise within the bounds."""
    if not isinstance(value, tuple) or len(value) > MAX_NODES:
        return False
    if not all([is_node(node) for node in value]):
        return False
    if len(facts_of(value)) > MAX_FACTS or choices_of(value) > MAX_CHOICES:
        return False
    return 1 <= depth_of(value) <= MAX_DEPTH


def _are_parts(value):
    """Whether the value is a tuple of as many promises as a node can have parts."""
    if not isinstance(value, tuple) or not LEAST_PARTS <= len(value) <= MOST_PARTS:
        return False
    return all([isinstance(part, Promise) for part in value])


def _is_kind(value):
    """Whether the value is the kind of a node with parts."""
    return value in KINDS


def _are_names(value, facts):
    """Whether the value is a dict from just these facts to facts."""
    if not isinstance(value, dict) or len(value) != len(facts):
        return False
    return all([word in value and is_fact(value[word]) for word in facts])


def _of_both(kind, one, other):
    """The promise of a kind with two parts, the second of which may be no promise."""
    if not isinstance(other, Promise):
        raise InvalidOperation("the other operand is no promise")
    return Promise(joined(kind, [one.nodes, other.nodes]))


class Promise:
    """A promise, told by its nodes in preorder. It never changes."""

    def __init__(self, nodes):
        if not _are_nodes(nodes):
            raise InvalidPromise("there is no promise with these nodes")
        self._nodes = nodes

    @classmethod
    def read(cls, text):
        """The promise with this text."""
        if not isinstance(text, str):
            raise ParseError(None)
        nodes = nodes_in(text)
        if not _are_nodes(nodes) or text_of(nodes) != text:
            raise ParseError(None)
        return cls(nodes)

    @classmethod
    def of(cls, kind, parts):
        """The promise of a kind with two to four parts."""
        if not _is_kind(kind):
            raise InvalidOperation("this is no kind of a promise with parts")
        if not _are_parts(parts):
            raise InvalidOperation("this is no tuple of two to four promises")
        return cls(joined(kind, [part.nodes for part in parts]))

    @classmethod
    def fact(cls, word):
        """The promise that a fact holds."""
        if not is_fact(word):
            raise InvalidWord("this is no fact")
        return cls((("fact", word),))

    @classmethod
    def sure(cls):
        """The promise that holds whatever the facts mean."""
        return cls((("yes", 0),))

    @classmethod
    def never(cls):
        """The promise that does not hold whatever the facts mean."""
        return cls((("no", 0),))

    @property
    def nodes(self):
        """The tuple of the nodes in preorder."""
        return self._nodes

    @property
    def text(self):
        """The text from which the promise is read."""
        return text_of(self._nodes)

    @property
    def kind(self):
        """The first item of the first node."""
        return self._nodes[0][0]

    @property
    def parts(self):
        """The tuple of the parts of the first node."""
        return tuple([Promise(nodes) for nodes in parts_of(self._nodes)])

    @property
    def facts(self):
        """The ascending tuple of the facts."""
        return facts_of(self._nodes)

    @property
    def choices(self):
        """How many nodes are choices."""
        return choices_of(self._nodes)

    @property
    def depth(self):
        """The number of nodes on the longest way down."""
        return depth_of(self._nodes)

    def __and__(self, other):
        return _of_both("all", self, other)

    def __or__(self, other):
        return _of_both("some", self, other)

    def __add__(self, other):
        return _of_both("mine", self, other)

    def __mul__(self, other):
        return _of_both("yours", self, other)

    def __neg__(self):
        return Promise(turned(self._nodes))

    def renamed(self, names):
        """The promise with other facts, told by a dict from its facts."""
        if not _are_names(names, facts_of(self._nodes)):
            raise InvalidOperation("this is no dict from just the facts to facts")
        return Promise(renamed_in(self._nodes, names))

    def put(self, word, other):
        """The promise with another one for a fact, turned round where the fact is denied."""
        if not is_fact(word):
            raise InvalidWord("this is no fact")
        if not isinstance(other, Promise):
            raise InvalidOperation("only a promise can be put for a fact")
        return Promise(put_in(self._nodes, word, other.nodes))

    def with_part(self, index, other):
        """The promise with another part at an index."""
        parts = parts_of(self._nodes)
        if not is_index(index, len(parts)):
            raise InvalidNumber(index)
        if not isinstance(other, Promise):
            raise InvalidOperation("only a promise can be a part")
        parts[index] = other.nodes
        return Promise(joined(self._nodes[0][0], parts))

    def many(self, kind):
        """How many nodes are of a kind."""
        if not _is_kind(kind):
            raise InvalidOperation("this is no kind of a promise with parts")
        return len([first for first, _ in self._nodes if first == kind])

    def __len__(self):
        return len(self._nodes)

    def __iter__(self):
        return iter(self._nodes)

    def __getitem__(self, index):
        if not is_index(index, len(self._nodes)):
            raise InvalidNumber(index)
        return self._nodes[index]

    def __contains__(self, value):
        return isinstance(value, Promise) and has_part(self._nodes, value.nodes)

    def __eq__(self, value):
        return isinstance(value, Promise) and self._nodes == value._nodes

    def __str__(self):
        return str(text_of(self._nodes))
