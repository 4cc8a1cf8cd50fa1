"""Sayings about promises with names, and the news that a change brings."""

from eitherhand.base.words import is_index
from eitherhand.errors import InvalidOperation, Refused
from eitherhand.keep.fewest import MAX_CALLS, need
from eitherhand.keep.kept import is_kept
from eitherhand.order.leads import are_alike, leads


def is_name_in(promises, value):
    """Whether the value is the name of one of the promises of a dict."""
    return isinstance(value, str) and value in promises


def is_saying(promises, value):
    """Whether the value is a saying about promises of a dict."""
    if not isinstance(value, tuple) or len(value) < 2 or not is_name_in(promises, value[1]):
        return False
    if len(value) == 2:
        return value[0] in ("barred", "kept")
    if len(value) == 3 and value[0] == "need":
        return is_index(value[2], MAX_CALLS + 1)
    return len(value) == 3 and value[0] in ("alike", "leads") and is_name_in(promises, value[2])


def does_saying_hold(promises, saying):
    """Whether a saying about promises of a dict holds."""
    word = saying[0]
    one = promises[saying[1]]
    if word in ("kept", "barred"):
        return is_kept(one) == (word == "kept")
    if word == "need":
        return need(one) <= saying[2]
    other = promises[saying[2]]
    return leads(one, other) if word == "leads" else are_alike(one, other)


def renamed_saying(saying, name, other):
    """The saying with another name for a name, which can be the word of the saying, too."""
    return saying[:1] + tuple([other if item == name else item for item in saying[1:]])


def meaning(promises, saying):
    """What a saying says, whatever the names are."""
    return saying[:1] + tuple([
        promises[item].text if isinstance(item, str) else item for item in saying[1:]
    ])


def check_sayings(promises, sayings, held):
    """Raise the error of sayings that do not all hold; some are known to do so by their meanings."""
    if not all([is_saying(promises, saying) for saying in sayings]):
        raise InvalidOperation("a name in a pinned saying would be lacking")
    # All are asked first: what asking one of them raises comes ahead of a refusal.
    found = [
        meaning(promises, saying) in held or does_saying_hold(promises, saying) for saying in sayings
    ]
    for at, holds in enumerate(found):
        if not holds:
            raise Refused(sayings[at])


def news_of(before, behind):
    """The news of a change from the promises of one dict to those of another one."""
    found = []
    for name in sorted(list({**before, **behind})):
        if name not in before:
            found.append((name, "new"))
        elif name not in behind:
            found.append((name, "gone"))
        elif before[name] != behind[name]:
            was, now = is_kept(before[name]), is_kept(behind[name])
            if was != now:
                found.append((name, "kept" if now else "barred"))
    return tuple(found)
