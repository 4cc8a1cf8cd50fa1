"""Shapes: paths through promises, exchanged parts, joins and meets, tidied and spread promises."""

from eitherhand.base.nodes import LEAST_PARTS, MOST_PARTS, joined
from eitherhand.base.places import board_of, check_promise
from eitherhand.base.promises import Promise
from eitherhand.base.ways import branch_start, exchanged_from, part_from, paths_of
from eitherhand.base.words import is_index
from eitherhand.errors import InvalidNumber, InvalidOperation, InvalidPlace
from eitherhand.keep.judging import is_plan_on
from eitherhand.order.leads import bridged, made_of
from eitherhand.order.tidying import tidied_nodes

# A node of the first kind is spread over a part of the second one.
SPREAD = (("all", "mine"), ("some", "yours"))


def _start_of(promise, path):
    """The index of the node to which a path leads."""
    check_promise(promise)
    start = branch_start(promise.nodes, path)
    if start is None:
        raise InvalidPlace("this is no path of the promise")
    return start


def branch_at(promise, path):
    """The part at a path."""
    start = _start_of(promise, path)
    return Promise(part_from(promise.nodes, start))


def paths(promise):
    """The ascending tuple of all paths."""
    check_promise(promise)
    return paths_of(promise.nodes)


def exchanged(promise, path, other):
    """The promise with another part at a path."""
    start = _start_of(promise, path)
    check_promise(other)
    return made_of(exchanged_from(promise.nodes, start, other.nodes))


def _of_kind(kind, promises):
    """The promise of a kind with two to four parts."""
    if not LEAST_PARTS <= len(promises) <= MOST_PARTS:
        raise InvalidOperation("only two to four promises have a join or a meet")
    for promise in promises:
        check_promise(promise)
    return made_of(joined(kind, [promise.nodes for promise in promises]))


def join(*promises):
    """The least promise to which each one leads."""
    return _of_kind("mine", promises)


def meet(*promises):
    """The greatest promise that leads to each one."""
    return _of_kind("yours", promises)


def tidied(promise):
    """The tidied promise."""
    check_promise(promise)
    return Promise(tidied_nodes(promise.nodes))


def is_tidy(value):
    """Whether the value is a promise that is tidied already."""
    return isinstance(value, Promise) and tidied_nodes(value.nodes) == value.nodes


def spread(promise, path, index):
    """The promise in which a node is spread over one of its parts."""
    branch = branch_at(promise, path)
    parts = branch.parts
    if not is_index(index, len(parts)):
        raise InvalidNumber(index)
    over = parts[index]
    if (branch.kind, over.kind) not in SPREAD:
        raise InvalidOperation("the node cannot be spread over this part")
    found = joined(over.kind, [branch.with_part(index, inner).nodes for inner in over.parts])
    return made_of(exchanged_from(promise.nodes, branch_start(promise.nodes, path), found))


def is_exchange(promise, path, other, value):
    """Whether the value is a plan of the bridge to the promise with another part at a path."""
    return is_plan_on(board_of(bridged(promise, exchanged(promise, path, other))), value)
