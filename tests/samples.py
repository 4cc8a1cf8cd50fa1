"""Values of all the sorts of which the document says that they can be passed, and promises."""

import random

from eitherhand.base.places import Surface
from eitherhand.base.promises import KINDS, Promise
from eitherhand.errors import InvalidPromise, InvalidWord, UnknownFact
from eitherhand.given.asking import Asker
from eitherhand.given.books import Book
from eitherhand.keep.counters import Counter
from eitherhand.keep.kept import Keeper
from eitherhand.keep.plans import Plan
from eitherhand.order.leads import Order
from eitherhand.plain.worlds import Plain
from eitherhand.play.runs import Play
from eitherhand.text.shell import Shell
from eitherhand.use.project import Project

A = Promise.fact("a")
PICK = Promise.read("[a + !a]")
COPY = Promise.read("([a + b] | [!a * !b])")
TWICE = Promise.read("([!b + !c] | ([b * c] & [b * c]))")
HALF = Promise.read("([a + b] | !a)")
COPY_PLAN = {
    COPY.text: None, "([a + b] | !a)": ((0,), 0), "([a + b] | !b)": ((0,), 1), "(a | !a)": None, "(b | !b)": None,
}
PICK_COUNTER = {PICK.text: ("rest", ()), "a": ("rest", ()), "!a": ("rest", ("a",))}
TEXTS = (
    "a", "!a", "yes", "no", "rain", "!abcdefgh", "(a & b)", "(a | !b | yes)", "[a + b + c + d]",
    "[yes * no]", "([a + b] | [!a * !b])", "([!b + !c] | ([b * c] & [b * c]))",
    "(((a & b) | [c + !d]) & [no * (yes | e)] & f)", "[[a + !a] * [b + !b]]", "((a | a) & yes)",
)


def nested(depth, make, inner):
    """A value within so many lists, tuples or dicts."""
    for _ in range(depth):
        inner = make(inner)
    return inner


def all_sorts():
    """Fresh values of every sort."""
    printable = "".join([chr(code) for code in range(32, 127)])
    numbers = [0, 1, -1, 2, 3, 4, 5, 7, 40, 10 ** 59, 10 ** 60 - 1, 10 ** 60, -10 ** 60, 10 ** 100 - 1]
    strings = [
        "", "a", "rain", "yes", "no", "all", "some", "mine", "yours", "fact", "not", "keeper",
        "caller", "(a & b)", "a\n", " ", printable, "a" * 9000, "(" * 9000, "\n" * 9000,
    ]
    return [
        None, True, False, *numbers, *strings, (), [], {}, ("a",), ["a"], {"a": "b"},
        ("fact", "a"), (("fact", "a"),), [("fact", "a")], {"a": ["b", {"c": (1, [2])}]},
        nested(12, lambda inner: (inner,), 0), nested(12, lambda inner: [inner], 0),
        nested(12, lambda inner: {"a": inner}, 0), nested(12, lambda inner: {(1, True): inner}, "x"),
        Promise.fact("a"), (Promise.fact("a"), Promise.sure()), Promise.read("[a + !a]"),
        InvalidWord("a"), UnknownFact("a"), (InvalidWord("a"),), *made(), tuple(made()), {"a": made()},
    ]


def made():
    """An object of each class of the package that has a state, or a table."""
    play = Play(COPY)
    play.call("caller", (1,), 0)
    keeper = Keeper(COPY)
    keeper.hear((1,), 0)
    project = Project({"copy": COPY, "pick": PICK})
    project.pin(("kept", "copy"))
    shell = Shell()
    shell.run_all("promise " + PICK.text, "keeper 0")
    return [
        Surface(COPY), Plain(COPY), play, Plan(COPY, COPY_PLAN), keeper, Counter(PICK, PICK_COUNTER),
        Order(A, PICK), Book((A, PICK)), project, shell, Asker(PICK, 1),
    ]


def equal_ones(value):
    """The names of the classes of those objects that are equal to a value."""
    return [type(one).__name__ for one in made() if one == value]


def sorts_but(*kept):
    """Values of every sort, without those that are equal to some and of their class."""
    return [
        value for value in all_sorts()
        if not any(type(value) is type(one) and value == one for one in kept)
    ]


def no_promises():
    """Values of every sort that are no promises."""
    return [value for value in all_sorts() if not isinstance(value, Promise)]


def chain(depth):
    """A promise of one fact that is so deep, without choices."""
    promise = A
    for _ in range(depth - 1):
        promise = promise & A
    return promise


def of_all(*parts):
    """All of some promises."""
    return Promise.of("all", parts)


def small_nodes(most):
    """The nodes of all promises of at most so many nodes, of a and b."""
    plain = [(("fact", "a"),), (("not", "b"),), (("yes", 0),), (("no", 0),)]
    by_size = {1: plain}
    for size in range(2, most + 1):
        by_size[size] = []
        for many in range(2, 5):
            for parts in part_lists(by_size, many, size - 1):
                by_size[size] += [((kind, many), *parts) for kind in KINDS]
    return [nodes for size in by_size for nodes in by_size[size]]


def part_lists(by_size, many, size):
    """The nodes, one behind the other, of so many parts of so many nodes in all."""
    if many == 0:
        return [()] if size == 0 else []
    return [
        first + rest
        for own in range(1, size + 1) if own in by_size
        for rest in part_lists(by_size, many - 1, size - own)
        for first in by_size[own]
    ]


def grown(rng, depth, facts):
    """A promise that is made at random."""
    if depth == 0 or rng.random() < 0.2:
        words = [*facts, *["!" + fact for fact in facts], *facts, "yes", "no"]
        return Promise.read(rng.choice(words))
    many = rng.choice((2, 2, 2, 3))
    return Promise.of(rng.choice(KINDS), tuple(grown(rng, depth - 1, facts) for _ in range(many)))


def varied(seed, many, most=5, facts="ab"):
    """Promises made at random, with at most so many choices; every other one leads on to another."""
    rng = random.Random(seed)
    found = []
    while len(found) < many:
        one = grown(rng, rng.choice((1, 2, 2, 3)), facts)
        try:
            if len(found) % 2 == 0:
                one = -one | rng.choice((one, one + grown(rng, 1, facts), grown(rng, 2, facts) | one))
            elif len(found) % 3 == 0:
                one = one | Promise.read(rng.choice(("[a + !a]", "([a + !a] | [a + !a])", "(a | !a)")))
        except InvalidPromise:
            continue
        if 1 <= one.choices <= most and len(one) <= 24:
            found.append(one)
    return found
