"""States of a keeper who asks: at which ones a promise is kept, and tables from states.

A state is handled here as a triple of the number of a position on a board, of what is known, and
of the number of questions that are left; in tables the text stands in the place of the number.
"""

from eitherhand.base.truth import is_world_of
from eitherhand.base.words import is_index
from eitherhand.errors import TooMany
from eitherhand.given.cubes import Cubes, kept_cubes, kept_unasked, with_answer

MOST_QUESTIONS = 6


class Asking:
    """The states over a board."""

    def __init__(self, board):
        self.board = board
        self._cubes = Cubes(board)
        self._kept = [kept_unasked(board, self._cubes)]

    def key_of(self, state):
        """The state as it stands in a table."""
        number, known, left = state
        return (self.board.texts[number], known, left)

    def state_of(self, key):
        """The state that stands so in a table, or None if the value is none."""
        if not isinstance(key, tuple) or len(key) != 3:
            return None
        text, known, left = key
        number = self.board.number_of(text)
        if number is None or not self._can_be_known(known) or not is_index(left, MOST_QUESTIONS + 1):
            return None
        return (number, known, left)

    def _can_be_known(self, value):
        """Whether the value is an ascending tuple of pairs of a fact and its truth, each fact once."""
        if not isinstance(value, tuple):
            return False
        if not all([isinstance(pair, tuple) and len(pair) == 2 for pair in value]):
            return False
        if not all([isinstance(truth, bool) for _, truth in value]):
            return False
        return is_world_of(self.board.words, tuple([fact for fact, _ in value]))

    def behind(self, hand, state):
        """The list of the pairs of each call of a hand and of the state behind it."""
        number, known, left = state
        return [(call, (to, known, left)) for call, to in self.board.ways[hand][number]]

    def behind_call(self, hand, state, call):
        """The state behind a call, or None if the hand cannot make it."""
        number, known, left = state
        to = self.board.target(hand, number, call)
        return None if to is None else (to, known, left)

    def behind_answers(self, state):
        """The dict from each fact that can be asked for to the states behind `True` and `False`."""
        number, known, left = state
        if left == 0:
            return {}
        told = [fact for fact, _ in known]
        return {
            fact: [(number, with_answer(known, fact, truth), left - 1) for truth in (True, False)]
            for fact in self.board.words if fact not in told
        }

    def failing(self, state):
        """The mask of the worlds that agree with what is known, in which the position does not hold."""
        number, known, _ = state
        return self._cubes.agreeing(known) & (self.board.full - self.board.masks[number])

    def is_kept(self, state):
        """Whether the position is kept at a state."""
        number, known, left = state
        while len(self._kept) <= left:
            asked = [self._cubes.by_question(mask) for mask in self._kept[-1]]
            self._kept.append(kept_cubes(self.board, self._cubes, asked))
        return (self._kept[left][number] >> self._cubes.number_of(known)) & 1 == 1

    def good_facts(self, state):
        """The ascending tuple of the facts for which to ask here, whatever the answer is."""
        answers = self.behind_answers(state)
        return tuple([fact for fact in answers if all([self.is_kept(to) for to in answers[fact]])])

    def planned(self, state):
        """What a plan tells at a state that is kept, and the list of the states behind it."""
        # What is kept stays kept behind each call of the caller's, so to hold is enough to wait.
        if self.failing(state) == 0:
            return (None, [to for _, to in self.behind("caller", state)])
        for call, to in self.behind("keeper", state):
            if self.is_kept(to):
                return (call, [to])
        fact = self.good_facts(state)[0]
        return (fact, self.behind_answers(state)[fact])

    def countered(self, state):
        """What a counter tells at a state that is not kept, and the list of the states behind it."""
        worlds_left = self.board.worlds_in(self.failing(state))
        if worlds_left == ():
            call, to = [way for way in self.behind("caller", state) if not self.is_kept(way[1])][0]
            return (("call", call[0], call[1]), [to])
        world = worlds_left[0]
        heard = [to for _, to in self.behind("keeper", state)]
        answers = self.behind_answers(state)
        return (("rest", world), heard + [self._worse(answers[fact], fact in world) for fact in answers])

    def _worse(self, states, truth):
        """Of the states behind both answers one that is not kept: that behind a truth, if it is none."""
        first, second = states if truth else (states[1], states[0])
        return second if self.is_kept(first) else first


def asking_table(asking, start, limit):
    """The plan from a state that is kept, or the counter from another one, with few keys."""
    kept = asking.is_kept(start)
    table = {}
    begun = [start]
    while begun:
        state = begun.pop()
        key = asking.key_of(state)
        if key not in table:
            table[key], behind = asking.planned(state) if kept else asking.countered(state)
            begun.extend(behind)
        if len(table) > limit:
            raise TooMany(limit)
    return {key: table[key] for key in sorted(list(table))}


def _are_keys(asking, start, value):
    """Whether the value is a dict whose keys are states, one of them a given one."""
    if not isinstance(value, dict) or asking.key_of(start) not in value:
        return False
    return all([asking.state_of(key) is not None for key in value])


def _are_in(asking, table, states):
    """Whether some states are keys."""
    return all([asking.key_of(state) in table for state in states])


def is_asking_plan(asking, start, value):
    """Whether the value is an asking plan from a state on."""
    if not _are_keys(asking, start, value):
        return False
    return all([_is_planned(asking, value, asking.state_of(key), value[key]) for key in value])


def _is_planned(asking, table, state, told):
    """Whether what a table tells at a state can stand in a plan."""
    if told is None:
        heard = [to for _, to in asking.behind("caller", state)]
        return asking.failing(state) == 0 and _are_in(asking, table, heard)
    if isinstance(told, str):
        answers = asking.behind_answers(state)
        return told in answers and _are_in(asking, table, answers[told])
    to = asking.behind_call("keeper", state, told)
    return to is not None and _are_in(asking, table, [to])


def is_asking_counter(asking, start, value):
    """Whether the value is an asking counter from a state on."""
    if not _are_keys(asking, start, value):
        return False
    return all([_is_countered(asking, value, asking.state_of(key), value[key]) for key in value])


def _is_countered(asking, table, state, told):
    """Whether what a table tells at a state can stand in a counter."""
    if not isinstance(told, tuple):
        return False
    if len(told) == 2 and told[0] == "rest":
        return _does_rest(asking, table, state, told[1])
    to = asking.behind_call("caller", state, told[1:]) if told[:1] == ("call",) else None
    return to is not None and _are_in(asking, table, [to])


def _does_rest(asking, table, state, world):
    """Whether a caller can rest at a state with a value as the world."""
    if world not in asking.board.worlds_in(asking.failing(state)):
        return False
    for one, other in asking.behind_answers(state).values():
        if asking.key_of(one) not in table and asking.key_of(other) not in table:
            return False
    return _are_in(asking, table, [to for _, to in asking.behind("keeper", state)])
