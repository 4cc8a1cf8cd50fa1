"""In which sets of worlds promises are kept, and knowing which facts."""

from eitherhand.base.places import board_of, check_promise
from eitherhand.base.truth import is_world_of, worlds_of
from eitherhand.base.words import is_fact_tuple
from eitherhand.errors import InvalidOperation, InvalidWorld, UnknownFact
from eitherhand.given.cubes import Cubes, answers_about, answers_in, kept_unasked
from eitherhand.given.greatest import greatest_on
from eitherhand.keep.judging import is_counter_on, is_paper_on, is_plan_on
from eitherhand.keep.solving import kept_on, paper_on

MAX_SETS = 2000
PAPERS = ("kept", "barred")


def _are_worlds(facts, value):
    """Whether the value is an ascending tuple of worlds of some facts."""
    if not isinstance(value, tuple) or not all([is_world_of(facts, world) for world in value]):
        return False
    return all([value[at] < value[at + 1] for at in range(len(value) - 1)])


def _board_within(promise, chosen):
    """The board of a promise on which the worlds of a set alone count."""
    check_promise(promise)
    if not _are_worlds(promise.facts, chosen):
        raise InvalidWorld("this is no set of worlds of the promise")
    board = board_of(promise)
    board.narrow(board.mask_of_worlds(chosen))
    return board


def is_world_set(promise, value):
    """Whether the value is a set of worlds of the promise."""
    check_promise(promise)
    return _are_worlds(promise.facts, value)


def is_kept_in(promise, worlds):
    """Whether a promise is kept in a set of worlds."""
    return kept_on(_board_within(promise, worlds))[0]


def set_paper(promise, worlds):
    """Some pair of the word `kept` and a plan for a set, or of the word `barred` and a counter."""
    return paper_on(_board_within(promise, worlds), PAPERS)


def is_set_paper(promise, worlds, value):
    """Whether the value is such a pair."""
    return is_paper_on(_board_within(promise, worlds), PAPERS, value)


def greatest_sets(promise):
    """The ascending tuple of the greatest sets in which a promise is kept."""
    board = board_of(promise)
    return tuple(sorted([board.worlds_in(mask) for mask in greatest_on(board, MAX_SETS)]))


def is_kept_alone(promise):
    """Whether a promise is kept in each set of one world."""
    check_promise(promise)
    # Who knows all facts knows the world.
    return is_kept_knowing(promise, promise.facts)


def _board_knowing(promise, facts):
    """The board of a promise of which some facts can be known."""
    check_promise(promise)
    if not is_fact_tuple(facts):
        raise InvalidOperation("this is no ascending tuple of facts")
    for fact in facts:
        if fact not in promise.facts:
            raise UnknownFact(fact)
    return board_of(promise)


def _does_know(kept, cubes, facts):
    """Whether a mask of cubes has each one that knows just some facts."""
    return all([(kept >> cubes.number_of(known)) & 1 == 1 for known in answers_about(facts)])


def is_kept_knowing(promise, facts):
    """Whether a promise is kept knowing some facts."""
    board = _board_knowing(promise, facts)
    cubes = Cubes(board)
    return _does_know(kept_unasked(board, cubes)[0], cubes, facts)


def least_facts(promise):
    """The ascending tuple of all facts knowing which a promise is kept, but not with a part of them."""
    board = board_of(promise)
    cubes = Cubes(board)
    kept = kept_unasked(board, cubes)[0]
    enough = {facts: _does_know(kept, cubes, facts) for facts in worlds_of(board.words)}
    return tuple([facts for facts in enough if enough[facts] and not _can_spare(enough, facts)])


def _can_spare(enough, facts):
    """Whether some facts are enough without one of them, too."""
    return any([enough[facts[:at] + facts[at + 1:]] for at in range(len(facts))])


def _narrow_to(board, cubes, facts, told):
    """Let the worlds alone count in which, of some facts, just those hold that are told."""
    board.narrow(cubes.agreeing(answers_in(facts, told)))


def knowing_paper(promise, facts):
    """Some pair of the word `kept` and a dict of plans, or `barred`, the facts that hold and a counter."""
    board = _board_knowing(promise, facts)
    cubes = Cubes(board)
    plans = {}
    for told in worlds_of(facts):
        _narrow_to(board, cubes, facts, told)
        word, table = paper_on(board, PAPERS)
        if word == "barred":
            return (word, told, table)
        plans[told] = table
    return ("kept", plans)


def is_knowing_paper(promise, facts, value):
    """Whether the value is such a pair."""
    board = _board_knowing(promise, facts)
    cubes = Cubes(board)
    if not isinstance(value, tuple) or len(value) < 2:
        return False
    if value[0] == "kept" and len(value) == 2:
        return _are_plans(board, cubes, facts, value[1])
    if value[0] != "barred" or len(value) != 3 or not is_world_of(facts, value[1]):
        return False
    _narrow_to(board, cubes, facts, value[1])
    return is_counter_on(board, value[2])


def _are_plans(board, cubes, facts, value):
    """Whether the value is a dict from all that can hold of some facts to plans for it."""
    every = worlds_of(facts)
    if not isinstance(value, dict) or len(value) != len(every):
        return False
    for told in every:
        _narrow_to(board, cubes, facts, told)
        if told not in value or not is_plan_on(board, value[told]):
            return False
    return True
