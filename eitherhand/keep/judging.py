"""Tables judged on a board: which values are plans, counters, habits or numbers that hold."""

from eitherhand.base.truth import is_world_of
from eitherhand.base.words import is_index


def _are_keys(board, value):
    """Whether the value is a dict whose keys are texts of positions."""
    if not isinstance(value, dict):
        return False
    return all([board.number_of(key) is not None for key in value])


def _starts_at_promise(board, value):
    """Whether the value is a dict from texts of positions, of the promise itself, too."""
    return _are_keys(board, value) and board.texts[0] in value


def _are_all_in(board, hand, number, table):
    """Whether each call of a hand leads to a key."""
    return all([board.texts[behind] in table for _, behind in board.ways[hand][number]])


def _does_call_into(board, hand, number, call, table):
    """Whether a value is a call that the hand can make, and leads to a key."""
    behind = board.target(hand, number, call)
    return behind is not None and board.texts[behind] in table


def is_plan_on(board, value):
    """Whether the value is a plan."""
    if not _starts_at_promise(board, value):
        return False
    return all([_is_planned(board, value, board.numbers[text]) for text in value])


def _is_planned(board, table, number):
    """Whether what a table tells at a position can stand in a plan."""
    told = table[board.texts[number]]
    if told is None:
        return board.does_always_hold(number) and _are_all_in(board, "caller", number, table)
    return _does_call_into(board, "keeper", number, told, table)


def is_counter_on(board, value):
    """Whether the value is a counter."""
    if not _starts_at_promise(board, value):
        return False
    return all([_is_countered(board, value, board.numbers[text]) for text in value])


def _is_countered(board, table, number):
    """Whether what a table tells at a position can stand in a counter."""
    told = table[board.texts[number]]
    if not isinstance(told, tuple):
        return False
    if len(told) == 2 and told[0] == "rest":
        return _does_fail(board, number, told[1]) and _are_all_in(board, "keeper", number, table)
    if len(told) == 3 and told[0] == "call":
        return _does_call_into(board, "caller", number, told[1:], table)
    return False


def _does_fail(board, number, world):
    """Whether a value is a world of the promise in which a position does not hold."""
    if not is_world_of(board.words, world):
        return False
    return (board.masks[number] >> board.world_list.index(world)) & 1 == 0


def is_paper_on(board, words, value):
    """Whether the value is a pair of the first word and a plan, or of the second one and a counter."""
    if not isinstance(value, tuple) or len(value) != 2:
        return False
    word, table = value
    if word == words[0]:
        return is_plan_on(board, table)
    return word == words[1] and is_counter_on(board, table)


def is_habit_on(board, value):
    """Whether the value is a habit."""
    if not _are_keys(board, value):
        return False
    return all([
        told is None or board.target("keeper", board.numbers[text], told) is not None
        for text, told in value.items()
    ])


def _are_numbers(value, least, most):
    """Whether the values of a dict are integers within bounds."""
    return all([is_index(many, most + 1) and many >= least for many in value.values()])


def is_most_on(board, bounds, many, value):
    """Whether the value is a most table for a number, with integers within two bounds."""
    if not _starts_at_promise(board, value) or not _are_numbers(value, bounds[0], bounds[1]):
        return False
    if value[board.texts[0]] > many:
        return False
    return all([_is_enough(board, value, board.numbers[text]) for text in value])


def _is_enough(board, table, number):
    """Whether so many calls as a table tells at a position are enough, by the rest of the table."""
    many = table[board.texts[number]]
    if board.does_always_hold(number) and _are_all_in(board, "caller", number, table):
        heard = [table[board.texts[behind]] for _, behind in board.ways["caller"][number]]
        if all([least <= many for least in heard]):
            return True
    answers = [board.texts[behind] for _, behind in board.ways["keeper"][number]]
    return any([text in table and table[text] < many for text in answers])


def is_least_on(board, bounds, many, value):
    """Whether the value is a least table for a number, with integers within two bounds."""
    if not _starts_at_promise(board, value) or not _are_numbers(value, bounds[0], bounds[1]):
        return False
    if value[board.texts[0]] < many:
        return False
    return all([_is_wanted(board, value, board.numbers[text]) for text in value])


def _is_wanted(board, table, number):
    """Whether no fewer calls than a table tells at a position will do, by the rest of the table."""
    many = table[board.texts[number]]
    answers = [board.texts[behind] for _, behind in board.ways["keeper"][number]]
    if many > 1 and not all([text in table and table[text] >= many - 1 for text in answers]):
        return False
    if not board.does_always_hold(number):
        return True
    heard = [board.texts[behind] for _, behind in board.ways["caller"][number]]
    return any([text in table and table[text] >= many for text in heard])
