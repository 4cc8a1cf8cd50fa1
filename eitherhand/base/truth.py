"""Worlds of facts, and masks: integers that tell by their bits in which worlds something holds."""

from eitherhand.base.nodes import SIGNS


def worlds_of(facts):
    """The ascending list of the worlds of an ascending tuple of facts."""
    found = [()]
    for fact in reversed(list(facts)):
        found = [()] + [(fact,) + world for world in found] + found[1:]
    return found


def is_world_of(facts, value):
    """Whether the value is an ascending tuple of some of the facts."""
    if not isinstance(value, tuple) or not all([fact in facts for fact in value]):
        return False
    return all([value[at] < value[at + 1] for at in range(len(value) - 1)])


def mask_of_all(worlds):
    """The mask of what holds in each of the worlds, a list in which each one has its bit."""
    return (1 << len(worlds)) - 1


def fact_masks(facts, worlds):
    """The dict from each fact to the mask of the worlds in which it holds."""
    found = {}
    for fact in facts:
        bits = [1 << at for at, world in enumerate(worlds) if fact in world]
        found[fact] = sum(bits)
    return found


def plain_mask(kind, told, masks, full):
    """The mask of a plain node, by the masks of the facts and the mask of all worlds."""
    if kind in ("yes", "no"):
        return full if kind == "yes" else 0
    return masks[told] if kind == "fact" else full - masks[told]


def joined_mask(kind, parts, full):
    """The mask of the plain form of a node over the masks of its parts."""
    if kind in ("mine", "yours"):
        return 0 if kind == "mine" else full
    found = full if kind == "all" else 0
    for part in parts:
        found = found & part if kind == "all" else found | part
    return found


def mask_of(nodes, masks, full):
    """The mask of the plain form of a promise."""
    found = []
    # From behind, the parts of each node are met before it; the first part comes last.
    for kind, told in reversed(list(nodes)):
        if kind in SIGNS:
            parts = found[len(found) - told:]
            found = found[:len(found) - told] + [joined_mask(kind, parts, full)]
        else:
            found = found + [plain_mask(kind, told, masks, full)]
    return found[0]


def holds_in(nodes, world):
    """Whether the plain form of a promise is true in a world, in which other facts can hold, too."""
    masks = {told: 1 if told in world else 0 for kind, told in nodes if kind in ("fact", "not")}
    return mask_of(nodes, masks, 1) == 1
