"""Which positions of a board are kept, with how few calls, and tables that show it.

What is *due* is told by a dict from the numbers of those positions at which a hand calls to the
pairs of this call and of the number to which it leads; at others the hand waits or rests.
"""

from eitherhand.base.words import other_hand

LOST = 11


def kept_on(board):
    """The list that tells by numbers whether the positions are kept."""
    kept = [False for _ in board.texts]
    # Calls lead to greater numbers, so what is behind a position is known before it.
    for number in reversed(range(len(kept))):
        answers = board.ways["keeper"][number]
        kept[number] = can_wait(board, kept, number) or any([kept[behind] for _, behind in answers])
    return kept


def can_wait(board, kept, number):
    """Whether a position is stable and each call of the caller's leads to a kept one."""
    if not board.does_always_hold(number):
        return False
    return all([kept[behind] for _, behind in board.ways["caller"][number]])


def ways_where(board, hand, number, flags, flag):
    """The calls of a hand to positions that are flagged so, each beside the number behind it."""
    return [(call, behind) for call, behind in board.ways[hand][number] if flags[behind] == flag]


def calls_where(board, hand, number, flags, flag):
    """The ascending tuple of the calls of a hand to positions that are flagged so."""
    return tuple([call for call, _ in ways_where(board, hand, number, flags, flag)])


def dues_of_plan(board, kept):
    """What is due to a keeper who calls at kept positions where no plan waits, and only there."""
    return {
        number: ways_where(board, "keeper", number, kept, True)[0]
        for number in range(len(kept)) if kept[number] and not can_wait(board, kept, number)
    }


def dues_of_counter(board, kept):
    """What is due to a caller who calls at stable positions that are not kept, and only there."""
    return {
        number: ways_where(board, "caller", number, kept, False)[0]
        for number in range(len(kept)) if not kept[number] and board.does_always_hold(number)
    }


def reached(board, hand, dues):
    """The ascending list of the numbers of the positions to which runs that go by a table come."""
    met = {0: True}
    other = other_hand(hand)
    for number in range(len(board.texts)):
        if number in met:
            ways = [dues[number]] if number in dues else board.ways[other][number]
            for _, behind in ways:
                met[behind] = True
    return sorted(list(met))


def plan_table(board, dues):
    """The plan of what is due, with those positions alone to which runs that go by it come."""
    table = {}
    for number in reached(board, "keeper", dues):
        table[board.texts[number]] = dues[number][0] if number in dues else None
    return in_order(table)


def counter_table(board, dues):
    """The counter of what is due, with those positions alone to which runs that go by it come."""
    table = {}
    for number in reached(board, "caller", dues):
        if number in dues:
            place, index = dues[number][0]
            table[board.texts[number]] = ("call", place, index)
        else:
            table[board.texts[number]] = ("rest", _false_world(board, number))
    return in_order(table)


def _false_world(board, number):
    """The first world in which a position does not hold."""
    at = 0
    while (board.masks[number] >> at) & 1 == 1:
        at = at + 1
    return board.world_list[at]


def paper_on(board, words):
    """Some pair of the first word and a plan, or of the second one and a counter."""
    kept = kept_on(board)
    if kept[0]:
        return (words[0], plan_table(board, dues_of_plan(board, kept)))
    return (words[1], counter_table(board, dues_of_counter(board, kept)))


def in_order(table):
    """The dict with ascending keys."""
    return {text: table[text] for text in sorted(list(table))}


def most_due(board, dues):
    """The greatest number of the keeper's calls in a run that goes by a plan."""
    counts = {}
    for number in reversed(list(reached(board, "keeper", dues))):
        if number in dues:
            counts[number] = 1 + counts[dues[number][1]]
        else:
            heard = [counts[behind] for _, behind in board.ways["caller"][number]]
            counts[number] = max(heard, default=0)
    return counts[0]


def needs_on(board):
    """The list that tells by numbers the needs of the positions."""
    needs = [LOST for _ in board.texts]
    for number in reversed(range(len(needs))):
        waiting = need_of_waiting(board, needs, number)
        needs[number] = min(waiting, need_of_calling(board, needs, number))
    return needs


def need_of_waiting(board, needs, number):
    """The least number of calls with which a keeper can do who waits at a position."""
    if not board.does_always_hold(number):
        return LOST
    return max([needs[behind] for _, behind in board.ways["caller"][number]], default=0)


def need_of_calling(board, needs, number):
    """The least number of calls with which a keeper can do who calls at a position."""
    answered = [needs[behind] for _, behind in board.ways["keeper"][number]]
    return min(LOST, 1 + min(answered, default=LOST))


def dues_of_sparing(board, needs):
    """What is due to a keeper who makes as few calls as can be, and waits wherever that can be."""
    found = {}
    for number in range(len(needs)):
        if need_of_waiting(board, needs, number) > needs[number]:
            fewer = needs[number] - 1
            found[number] = ways_where(board, "keeper", number, needs, fewer)[0]
    return found
