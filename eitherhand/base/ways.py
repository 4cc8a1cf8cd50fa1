"""Places and calls within the nodes of a promise: what stands where, and what comes of a call."""

from eitherhand.base.nodes import end_of, parts_of
from eitherhand.base.words import HANDS, is_index

OPEN = ("all", "some")
WITH_PARTS = ("all", "mine", "some", "yours")
CALLED = {"caller": "yours", "keeper": "mine"}


def start_at(nodes, place):
    """The index at which the part at a place starts, or None if the value is no place."""
    return _start_along(nodes, place, OPEN)


def branch_start(nodes, path):
    """The index at which the part at a path starts, or None if the value is no path."""
    return _start_along(nodes, path, WITH_PARTS)


def _start_along(nodes, path, kinds):
    """The index to which a path leads through nodes of some kinds, or None if there is no such path."""
    if not isinstance(path, tuple):
        return None
    start = 0
    for index in path:
        kind, told = nodes[start]
        if kind not in kinds or not is_index(index, told):
            return None
        start = start + 1
        for _ in range(index):
            start = end_of(nodes, start)
    return start


def part_from(nodes, start):
    """The nodes of the part that starts at an index."""
    return nodes[start:end_of(nodes, start)]


def exchanged_from(nodes, start, other):
    """The nodes with other ones in the place of the part that starts at an index."""
    return nodes[:start] + other + nodes[end_of(nodes, start):]


def surface_of(nodes):
    """The list of the pairs of each place, ascending, and of the index at which its part starts."""
    return _paths_along(nodes, OPEN)


def paths_of(nodes):
    """The ascending tuple of all paths."""
    return tuple([path for path, _ in _paths_along(nodes, WITH_PARTS)])


def _paths_along(nodes, kinds):
    """The list of the pairs of each path through nodes of some kinds and of the index at its end."""
    found = []
    paths = [()]
    start = 0
    while paths:
        path = paths.pop()
        kind, told = nodes[start]
        found.append((path, start))
        if kind in kinds:
            start = start + 1
            # The path that is added last is taken next.
            for index in reversed(range(told)):
                paths.append(path + (index,))
        else:
            start = end_of(nodes, start)
    return found


def places_in(nodes, kinds):
    """The ascending tuple of the places of nodes of some kinds."""
    return tuple([place for place, start in surface_of(nodes) if nodes[start][0] in kinds])


def calls_in(nodes, hand):
    """The ascending tuple of the calls that a hand can make."""
    return tuple([
        (place, index) for place, start in surface_of(nodes) if nodes[start][0] == CALLED[hand]
        for index in range(nodes[start][1])
    ])


def hand_in(nodes, value):
    """The hand that can make a call, or None if the value is no call that can be made."""
    if not isinstance(value, tuple) or len(value) != 2:
        return None
    place, index = value
    start = start_at(nodes, place)
    if start is None:
        return None
    kind, told = nodes[start]
    for hand in HANDS:
        if kind == CALLED[hand] and is_index(index, told):
            return hand
    return None


def called_in(nodes, call):
    """The nodes of what comes of a call that can be made."""
    place, index = call
    start = start_at(nodes, place)
    parts = parts_of(part_from(nodes, start))
    return exchanged_from(nodes, start, parts[index])
