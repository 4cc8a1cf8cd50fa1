"""Promises tidied, by their nodes."""

from eitherhand.base.nodes import MOST_PARTS, SIGNS, choices_of, joined, parts_of, text_of

# The plain part that decides for a whole node, and the one that adds nothing to it.
DECIDING = {"all": "no", "mine": "yes", "some": "yes", "yours": "no"}
EMPTY = {"all": "yes", "mine": "no", "some": "no", "yours": "yes"}


def tidied_nodes(nodes):
    """The nodes of a promise tidied."""
    kind, _ = nodes[0]
    if kind not in SIGNS:
        return nodes
    parts = [tidied_nodes(part) for part in parts_of(nodes)]
    behind = _stepped(kind, parts)
    while behind != parts:
        parts = behind
        behind = _stepped(kind, parts)
    if len(parts) > 1:
        return joined(kind, parts)
    return parts[0] if len(parts) == 1 else ((EMPTY[kind], 0),)


def _stepped(kind, parts):
    """The parts behind the first step that changes them, or equal parts if none does."""
    behind = _opened(kind, parts)
    if behind == parts:
        behind = _decided(kind, parts)
    if behind == parts:
        behind = [part for part in parts if part != ((EMPTY[kind], 0),)]
    if behind == parts:
        behind = _each_once(kind, parts)
    if behind == parts:
        behind = sorted(parts, key=text_of)
    return behind


def _opened(kind, parts):
    """The parts with the first one of the same kind replaced by its own, if these are not too many."""
    for at, part in enumerate(parts):
        first, many = part[0]
        if first == kind and len(parts) - 1 + many <= MOST_PARTS:
            return parts[:at] + parts_of(part) + parts[at + 1:]
    return parts


def _decided(kind, parts):
    """A single plain part, if one of the parts decides for the whole node."""
    single = ((DECIDING[kind], 0),)
    return [single] if single in parts else parts


def _each_once(kind, parts):
    """The parts without those that are equal to one ahead and add nothing to it."""
    found = []
    for part in parts:
        is_free = kind in ("mine", "yours") or choices_of(part) == 0
        if part not in found or not is_free:
            found.append(part)
    return found
