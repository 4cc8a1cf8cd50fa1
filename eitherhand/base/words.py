"""The plain values that promises are told with: integers, facts and hands."""

from eitherhand.errors import InvalidOperation

MAX_LETTERS = 8
HANDS = ("caller", "keeper")


def is_integer(value):
    """Whether the value is an integer of at most sixty digits."""
    if not isinstance(value, int) or isinstance(value, bool):
        return False
    return abs(value) < 10 ** 60


def is_index(value, many):
    """Whether the value is an index of one of so many items."""
    return is_integer(value) and 0 <= value < many


def is_fact(value):
    """Whether the value is a word that can be a fact."""
    if not isinstance(value, str) or not 1 <= len(value) <= MAX_LETTERS:
        return False
    # Letters are compared one by one: methods such as islower take signs beyond a to z.
    return value not in ("yes", "no") and all(["a" <= letter <= "z" for letter in value])


def is_fact_tuple(value):
    """Whether the value is an ascending tuple of facts."""
    if not isinstance(value, tuple) or not all([is_fact(word) for word in value]):
        return False
    return all([value[at] < value[at + 1] for at in range(len(value) - 1)])


def is_hand(value):
    """Whether the value is one of the two hands."""
    return value in HANDS


def other_hand(hand):
    """The hand that this one is not."""
    if not is_hand(hand):
        raise InvalidOperation("this is no hand")
    return "keeper" if hand == "caller" else "caller"
