"""Hands in the midst of a run that go by their tables."""

from eitherhand.base.words import other_hand


def plan_dues(board, table):
    """What is due by a plan or a habit: a dict as in the module on solving."""
    found = {}
    for text, told in table.items():
        if told is not None:
            number = board.numbers[text]
            found[number] = (told, board.target("keeper", number, told))
    return found


def counter_dues(board, table):
    """What is due by a counter: a dict as in the module on solving."""
    found = {}
    for text, told in table.items():
        if told[0] == "call":
            number = board.numbers[text]
            found[number] = (told[1:], board.target("caller", number, told[1:]))
    return found


class Goer:
    """A hand that goes by a table: the number where it is, and the line of calls not taken up."""

    def __init__(self, board, hand, dues):
        self.board = board
        self.hand = hand
        self.number = 0
        self.line = []
        self._dues = dues

    def due(self):
        """The call that is due, or None."""
        return self._dues[self.number][0] if self.number in self._dues else None

    def hear(self, call):
        """Put a call of the other hand's at the end of the line."""
        self.line = self.line + [call]
        self._take_up()

    def make(self):
        """Make the call that is due, and return it."""
        call, self.number = self._dues[self.number]
        self._take_up()
        return call

    def _take_up(self):
        """Take up calls of the line, as long as none is due."""
        other = other_hand(self.hand)
        while self.line and self.number not in self._dues:
            self.number = self.board.target(other, self.number, self.line[0])
            self.line = self.line[1:]

    def does_follow(self, run):
        """Go on through a sound run, and tell whether each move of this hand is due when it comes."""
        for hand, place, index in run:
            if hand != self.hand:
                self.hear((place, index))
            elif self.due() == (place, index):
                self.make()
            else:
                return False
        return True


def run_against(goer, calls):
    """The run of a hand and of calls of the other one, each made as soon as it is there.

    It is None if a call is never there.
    """
    other = other_hand(goer.hand)
    run = []
    number = 0
    made = 0
    while made < len(calls) or goer.due() is not None:
        hand = other
        behind = goer.board.target(other, number, calls[made]) if made < len(calls) else None
        if behind is not None:
            call = calls[made]
            made = made + 1
            goer.hear(call)
        elif goer.due() is not None:
            hand = goer.hand
            call = goer.make()
            behind = goer.board.target(hand, number, call)
        else:
            return None
        run.append((hand, call[0], call[1]))
        number = behind
    return tuple(run)


def run_of_both(keeper, caller):
    """The run of two hands that go by their tables, the keeper first where both have a due call."""
    run = []
    while keeper.due() is not None or caller.due() is not None:
        own, other = (caller, keeper) if keeper.due() is None else (keeper, caller)
        call = own.make()
        other.hear(call)
        run.append((own.hand, call[0], call[1]))
    return tuple(run)
