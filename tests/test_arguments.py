"""[0.3] to [0.5]: wrong arguments, each by itself and two at once, and what the errors keep."""

import itertools
import unittest

from eitherhand.base import places, words
from eitherhand.base.promises import Promise
from eitherhand.errors import (
    InvalidBook, InvalidCall, InvalidNumber, InvalidOperation, InvalidPlace, InvalidPlan, InvalidPromise, InvalidRun,
    InvalidWord, InvalidWorld, NotKept, NothingToUndo, ParseError, UnknownFact,
)
from eitherhand.given import asking, books, sets
from eitherhand.keep import counters, fewest, kept, plans
from eitherhand.order import leads, shapes
from eitherhand.plain import worlds
from eitherhand.play import runs
from eitherhand.text import shell, texts
from eitherhand.use.project import Project
from samples import A, COPY, COPY_PLAN, PICK, PICK_COUNTER, all_sorts, no_promises

RUN = (("caller", (1,), 0), ("keeper", (0,), 0))
PICKED = (("keeper", (), 0),)
SORTS = all_sorts()
KEPT_AS = {UnknownFact: "asked", InvalidNumber: "number", NotKept: "wanted", NothingToUndo: "amount"}


def but(*good):
    """Values of every sort, except for those that are let."""
    return [value for value in SORTS if not any(type(value) is type(one) and value == one for one in good)]


PROMISE = (COPY, InvalidPromise, no_promises())
PICKING = (PICK, InvalidPromise, no_promises())
HAND = ("keeper", InvalidOperation, [*but("keeper", "caller"), "mine", "Keeper"])
PLACE = ((1,), InvalidPlace, [*but(()), (True,), (2,), (-1,), (0, 0), [1]])
CALL = (((1,), 0), InvalidCall, [*but(), ((1,), 2), ((1,), False), ((), 0), [(1,), 0]])
OTHER = (PICK, InvalidOperation, no_promises())
TEXT = ("(a | !a)", InvalidOperation, [*but("a"), "(a | b)"])
FACT = ("a", UnknownFact, [*but("a"), "c", "A"])
WORLD = (("a",), InvalidWorld, [*but((), ("a",)), ("b", "a"), ["a"], ("c",), ("a", "a")])
TRUTH = (True, InvalidOperation, [value for value in but() if not isinstance(value, bool)])
GOING = (RUN, InvalidRun, [*but(()), RUN * 7, list(RUN), (("keeper", (0,), True),), RUN[0]])
PLAN = (COPY_PLAN, InvalidPlan, [*but(), {COPY.text: None}, list(COPY_PLAN)])
COUNTER = (PICK_COUNTER, InvalidPlan, [*but(), {PICK.text: ("rest", ())}, COPY_PLAN])
HABIT = ({}, InvalidPlan, [*but({}), {"b": None}, PICK_COUNTER])
CALLS = ((((1,), 0),), InvalidCall, [*but(()), (((1,), True),), [((1,), 0)], ((1,), 0)])
PICKS = ((((), 0),), InvalidCall, [*but(()), (((), False),), [((), 0)], ((), 0)])
TWELVE = (2, InvalidNumber, [*but(0, 1, 2, 3, 4, 5, 7), 13, -1])
MOST = (2, InvalidNumber, [*but(0, 1, 2, 3, 4, 5, 7), 11, -1])
LEAST = (1, InvalidNumber, [*but(1, 2, 3, 4, 5, 7), 12, 0])
ANY = (None, None, [])
INDEX = (1, InvalidNumber, [*but(0, 1), 2, -1])
SELF_PLAN = ({"(!a | a)": None}, InvalidPlan, [*but(), {}, {"(a | !a)": None}, {"(!a | a)": ((), 0)}])
SPREADING = (Promise.read("(a & [b + c])"), InvalidPromise, no_promises())
PATH = ((), InvalidPlace, [*but(()), (True,), (2,), (-1,), (0, 0), [1], (1, 2)])
SET = (((), ("a",)), InvalidWorld, [*but(()), (("a",), ()), ((), ()), [()], (["a"],), (("c",),), (("b", "a"),)])
FACTS = (("a",), InvalidOperation, [*but((), ("a",)), ("b", "a"), ("a", "a"), ["a"], ("A",), ("yes",)])
BOOK = ((A, PICK), InvalidBook, [
    *[value for value in but() if not books.is_book(value)], (A,) * 4, [A], (A, "a"), books.Book((A,))])
NAME = ("copy", UnknownFact, [*but(), "pic", "picks"])
NEW_NAME = ("more", InvalidWord, [*[value for value in but() if not words.is_fact(value)], "Copy", "nineletter"])
NAMED = ({"a": A}, InvalidBook, [*but(), {"A": A}, {"a": "a"}, {**{"abcdefg"[at]: A for at in range(7)}}, [("a", A)]])
SAYING = (("barred", "pick"), InvalidOperation, [*but(), ("barred", "more"), ["barred", "pick"], ("need", "copy", 11)])
FORM = ("world", InvalidWord, [*but(), "Plan", "promises"])
VALUE = (("a",), InvalidOperation, [*but((), ("a",)), ("b", "a"), ["a"]])
LINE = ("a b", ParseError, [*but("a", "rain", "all", "some", "mine", "yours", "fact", "not", "keeper", "caller"), "b a"])
COMMAND = ("show", InvalidOperation, [value for value in but() if not isinstance(value, str)])
ASKED = (2, InvalidNumber, [*but(0, 1, 2, 3, 4, 5), 7, -1])
CALLER_PLACE = ((), InvalidCall, [*but(()), (0,)])
CALLER_INDEX = (1, InvalidCall, [*but(0, 1), 2])
LATER = Promise.read("[[a + !a] * [b + !b]]")


def project():
    """A project in which a saying is pinned."""
    found = Project({"copy": COPY, "pick": PICK})
    found.pin(("kept", "copy"))
    return found


def asker():
    """A keeper who can ask twice."""
    return asking.Asker(LATER, 2)


def of_new(make, word):
    """A function that calls a method of an object that is new each time."""
    return lambda *told: getattr(make(), word)(*told)


def first_of(generator):
    """A function that requests the first element of a generator."""
    return lambda *told: next(generator(*told))


FUNCTIONS = {
    "other_hand": (words.other_hand, [HAND]),
    "surface": (places.surface, [PROMISE]),
    "part_at": (places.part_at, [PROMISE, PLACE]),
    "calls": (places.calls, [PROMISE, HAND]),
    "is_call": (places.is_call, [PROMISE, ANY]),
    "hand_of": (places.hand_of, [PROMISE, CALL]),
    "called": (places.called, [PROMISE, CALL]),
    "replaced": (places.replaced, [PROMISE, PLACE, OTHER]),
    "positions": (places.positions, [PROMISE]),
    "is_position": (places.is_position, [PROMISE, ANY]),
    "calls_to": (places.calls_to, [PROMISE, TEXT]),
    "Surface": (places.Surface, [PROMISE]),
    "behind": (places.Surface(COPY).behind, [CALL]),
    "Surface.moves": (places.Surface(COPY).moves, [HAND]),
    "is_world": (worlds.is_world, [PROMISE, ANY]),
    "worlds": (first_of(worlds.worlds), [PROMISE]),
    "plain_form": (worlds.plain_form, [PROMISE]),
    "does_hold": (worlds.does_hold, [PROMISE, WORLD]),
    "is_stable": (worlds.is_stable, [PROMISE]),
    "false_worlds": (worlds.false_worlds, [PROMISE]),
    "with_truth": (worlds.with_truth, [PROMISE, FACT, TRUTH]),
    "does_depend": (worlds.does_depend, [PROMISE, FACT]),
    "are_equal_plain": (worlds.are_equal_plain, [PROMISE, PROMISE]),
    "Plain": (worlds.Plain, [PROMISE]),
    "Plain.at": (worlds.Plain(COPY).at, [WORLD]),
    "with_fact": (worlds.Plain(COPY).with_fact, [FACT, TRUTH]),
    "moves_at": (runs.moves_at, [PROMISE, HAND]),
    "first_wrong": (runs.first_wrong, [PROMISE, GOING]),
    "played": (runs.played, [PROMISE, GOING]),
    "winner": (runs.winner, [PROMISE, GOING, WORLD]),
    "is_delay": (runs.is_delay, [HAND, GOING, GOING]),
    "delays": (first_of(runs.delays), [HAND, GOING]),
    "sound_runs": (first_of(runs.sound_runs), [PROMISE, TWELVE]),
    "count_runs": (runs.count_runs, [PROMISE]),
    "Play": (runs.Play, [PROMISE]),
    "Play.moves": (runs.Play(COPY).moves, [HAND]),
    "leader": (runs.Play(COPY).leader, [WORLD]),
    "is_plan": (plans.is_plan, [PROMISE, ANY]),
    "does_go_by": (plans.does_go_by, [PROMISE, PLAN, GOING]),
    "due_call": (plans.due_call, [PROMISE, PLAN, GOING]),
    "taken_up": (plans.taken_up, [PROMISE, PLAN, GOING]),
    "answered": (plans.answered, [PROMISE, PLAN, CALLS]),
    "Plan": (plans.Plan, [PROMISE, PLAN]),
    "Plan.at": (plans.Plan(COPY, COPY_PLAN).at, [("(a | !a)", InvalidOperation, [*but(), "(a | b)"])]),
    "is_kept": (kept.is_kept, [PROMISE]),
    "plan_for": (kept.plan_for, [PROMISE]),
    "kept_paper": (kept.kept_paper, [PROMISE]),
    "is_kept_paper": (kept.is_kept_paper, [PROMISE, ANY]),
    "good_calls": (kept.good_calls, [PROMISE]),
    "hurting_calls": (kept.hurting_calls, [PROMISE]),
    "may_wait": (kept.may_wait, [PROMISE]),
    "kept_positions": (kept.kept_positions, [PROMISE]),
    "Keeper": (kept.Keeper, [PROMISE]),
    "is_counter": (counters.is_counter, [PROMISE, ANY]),
    "is_habit": (counters.is_habit, [PROMISE, ANY]),
    "counter_for": (counters.counter_for, [PICKING]),
    "does_counter": (counters.does_counter, [PICKING, COUNTER, (PICKED, *GOING[1:])]),
    "due_counter": (counters.due_counter, [PICKING, COUNTER, (PICKED, *GOING[1:])]),
    "last_world": (counters.last_world, [PICKING, COUNTER, (PICKED, *GOING[1:])]),
    "meeting": (counters.meeting, [PICKING, HABIT, COUNTER]),
    "caller_wins": (counters.caller_wins, [PICKING, COUNTER, PICKS]),
    "Counter": (counters.Counter, [PICKING, COUNTER]),
    "Counter.at": (counters.Counter(PICK, PICK_COUNTER).at, [("a", InvalidOperation, [*but("a"), "b"])]),
    "need": (fewest.need, [PROMISE]),
    "needs": (fewest.needs, [PROMISE]),
    "most_table": (fewest.most_table, [PROMISE, MOST]),
    "is_most_table": (fewest.is_most_table, [PROMISE, MOST, ANY]),
    "least_table": (fewest.least_table, [PROMISE, LEAST]),
    "is_least_table": (fewest.is_least_table, [PROMISE, LEAST, ANY]),
    "cost": (fewest.cost, [PROMISE, PLAN]),
    "sparing_plan": (fewest.sparing_plan, [PROMISE]),
    "is_sparing": (fewest.is_sparing, [PROMISE, ANY]),
    "sparing_calls": (fewest.sparing_calls, [PROMISE]),
    "bridge": (leads.bridge, [PROMISE, PROMISE]),
    "leads": (leads.leads, [PROMISE, PROMISE]),
    "are_alike": (leads.are_alike, [PROMISE, PROMISE]),
    "order_paper": (leads.order_paper, [PROMISE, PROMISE]),
    "is_order_paper": (leads.is_order_paper, [PROMISE, PROMISE, ANY]),
    "copy_table": (leads.copy_table, [PROMISE]),
    "joined_plan": (leads.joined_plan, [(A, *PROMISE[1:])] * 3 + [SELF_PLAN, SELF_PLAN]),
    "Order": (leads.Order, [PROMISE, PROMISE, PROMISE]),
    "below": (leads.Order(A, PICK).below, [INDEX]),
    "above": (leads.Order(A, PICK).above, [INDEX]),
    "with_promise": (leads.Order(A, PICK).with_promise, [PROMISE]),
    "branch_at": (shapes.branch_at, [SPREADING, PATH]),
    "paths": (shapes.paths, [PROMISE]),
    "exchanged": (shapes.exchanged, [SPREADING, PATH, PROMISE]),
    "join": (shapes.join, [PROMISE, PROMISE, PROMISE]),
    "meet": (shapes.meet, [PROMISE, PROMISE]),
    "tidied": (shapes.tidied, [PROMISE]),
    "spread": (shapes.spread, [SPREADING, PATH, INDEX]),
    "is_exchange": (shapes.is_exchange, [SPREADING, PATH, PROMISE, ANY]),
    "is_world_set": (sets.is_world_set, [PROMISE, ANY]),
    "is_kept_in": (sets.is_kept_in, [PROMISE, SET]),
    "set_paper": (sets.set_paper, [PROMISE, SET]),
    "is_set_paper": (sets.is_set_paper, [PROMISE, SET, ANY]),
    "greatest_sets": (sets.greatest_sets, [PROMISE]),
    "is_kept_alone": (sets.is_kept_alone, [PROMISE]),
    "is_kept_knowing": (sets.is_kept_knowing, [PROMISE, FACTS]),
    "least_facts": (sets.least_facts, [PROMISE]),
    "knowing_paper": (sets.knowing_paper, [PROMISE, FACTS]),
    "is_knowing_paper": (sets.is_knowing_paper, [PROMISE, FACTS, ANY]),
    "claim": (books.claim, [BOOK, PROMISE]),
    "follows": (books.follows, [BOOK, PROMISE]),
    "needed": (books.needed, [BOOK, PROMISE]),
    "least_parts": (books.least_parts, [BOOK, PROMISE]),
    "book_paper": (books.book_paper, [BOOK, PROMISE]),
    "is_book_paper": (books.is_book_paper, [BOOK, PROMISE, ANY]),
    "without_any": (books.without_any, [BOOK, PROMISE]),
    "Book": (books.Book, [BOOK]),
    "with_given": (books.Book((A, PICK)).with_given, [PROMISE]),
    "without_given": (books.Book((A, PICK)).without_given, [INDEX]),
    "keeps": (books.Book((A, PICK)).keeps, [PROMISE]),
    "Book[]": (lambda index: books.Book((A, PICK))[index], [INDEX]),
    "Project": (Project, [NAMED]),
    "Project.put": (of_new(project, "put"), [NEW_NAME, PROMISE]),
    "remove": (of_new(project, "remove"), [("pick", *NAME[1:])]),
    "rename": (of_new(project, "rename"), [NAME, NEW_NAME]),
    "Project.call": (of_new(project, "call"), [("pick", *NAME[1:]), CALLER_PLACE, CALLER_INDEX]),
    "pin": (of_new(project, "pin"), [SAYING]),
    "unpin": (of_new(project, "unpin"), [(("kept", "copy"), *SAYING[1:])]),
    "Project.does_hold": (of_new(project, "does_hold"), [SAYING]),
    "trial": (of_new(project, "trial"), [(("remove", "pick"), InvalidOperation, [*but(), ("undo",), ["pin", ()]])]),
    "write": (texts.write, [FORM, VALUE]),
    "read": (texts.read, [FORM, LINE]),
    "is_written": (texts.is_written, [FORM, ANY]),
    "run": (of_new(shell.Shell, "run"), [COMMAND]),
    "run_all": (of_new(shell.Shell, "run_all"), [COMMAND, COMMAND]),
    "is_kept_asking": (asking.is_kept_asking, [PROMISE, ASKED]),
    "questions": (asking.questions, [PROMISE]),
    "asking_paper": (asking.asking_paper, [PROMISE, ASKED]),
    "is_asking_paper": (asking.is_asking_paper, [PROMISE, ASKED, ANY]),
    "good_questions": (asking.good_questions, [PROMISE, ASKED]),
    "Asker": (asking.Asker, [PROMISE, ASKED]),
    "Asker.hear": (of_new(asker, "hear"), [CALLER_PLACE, CALLER_INDEX]),
    "tell": (of_new(asker, "tell"), [FACT, TRUTH]),
}
JUDGES = {
    "is_integer": words.is_integer, "is_fact": words.is_fact, "is_hand": words.is_hand, "is_move": runs.is_move,
    "is_run": runs.is_run, "is_tidy": shapes.is_tidy, "is_book": books.is_book,
    **{name: (lambda value, name=name: FUNCTIONS[name][0](*[told[0] for told in FUNCTIONS[name][1][:-1]], value))
       for name in ("is_call", "is_position", "is_world", "is_plan", "is_kept_paper", "is_counter", "is_habit",
                    "is_most_table", "is_least_table", "is_sparing", "is_order_paper", "is_exchange", "is_world_set",
                    "is_set_paper", "is_knowing_paper", "is_book_paper", "is_written", "is_asking_paper")},
}


class ArgumentsTest(unittest.TestCase):
    def refused(self, name, told, error, value):
        """Check that a call raises an error, which keeps a value if it keeps one."""
        with self.assertRaises(error, msg=name) as caught:
            FUNCTIONS[name][0](*told)
        self.assertIs(type(caught.exception), error, name)
        if error in KEPT_AS:
            found = getattr(caught.exception, KEPT_AS[error])
            self.assertEqual(found, value)
            self.assertIs(type(found), type(value))

    def test_good_arguments_are_taken(self):
        for name, (function, told) in FUNCTIONS.items():
            function(*[good for good, _, _ in told])

    def test_each_wrong_argument_by_itself(self):
        for name, (_, told) in FUNCTIONS.items():
            for at, (_, error, bad) in enumerate(told):
                for value in bad:
                    arguments = [good for good, _, _ in told]
                    arguments[at] = value
                    self.refused(name, arguments, error, value)

    def test_two_wrong_arguments_at_once(self):
        for name, (_, told) in FUNCTIONS.items():
            for one, other in itertools.combinations(range(len(told)), 2):
                for step, value in enumerate(told[one][2]):
                    bad = told[other][2] or SORTS
                    arguments = [good for good, _, _ in told]
                    arguments[one] = value
                    arguments[other] = bad[step % len(bad)]
                    self.refused(name, arguments, told[one][1], value)

    def test_all_arguments_wrong(self):
        for name, (_, told) in FUNCTIONS.items():
            self.refused(name, [None] * len(told), told[0][1], None)

    def test_an_error_behind_then_comes_last(self):
        late = (("keeper", (1,), 0),)
        for function in (plans.does_go_by, plans.due_call, plans.taken_up):
            with self.assertRaises(InvalidOperation):
                function(COPY, COPY_PLAN, late)
            with self.assertRaises(InvalidPlan):
                function(COPY, {}, late)
        with self.assertRaises(InvalidRun):
            runs.played(COPY, late)
        with self.assertRaises(InvalidWorld):
            runs.winner(COPY, late, ("c",))
        for call, error in ((lambda: fewest.most_table(PICK, 11), InvalidNumber), (lambda: fewest.most_table(PICK, 10), NotKept),
                            (lambda: fewest.least_table(COPY, 12), InvalidNumber),
                            (lambda: fewest.least_table(COPY, 2), InvalidOperation),
                            (lambda: counters.last_world(PICK, {}, late), InvalidPlan),
                            (lambda: counters.last_world(PICK, PICK_COUNTER, late), InvalidOperation)):
            with self.assertRaises(error):
                call()

    def test_judged_values(self):
        for name, judge in JUDGES.items():
            for value in [*SORTS, *[(value,) for value in SORTS], *[[value, {"a": (value,)}] for value in SORTS]]:
                first = judge(value)
                self.assertIs(type(first), bool, name)
                self.assertIs(judge(value), first, name)

    def test_equal_calls_have_equal_results(self):
        for name, (function, told) in FUNCTIONS.items():
            arguments = [good for good, _, _ in told]
            self.assertEqual(function(*arguments), function(*arguments), name)
            self.assertEqual(arguments, [good for good, _, _ in told])

    def test_arguments_are_not_changed(self):
        before = repr([(COPY_PLAN, PICK_COUNTER, RUN)])
        for name, (function, told) in FUNCTIONS.items():
            function(*[good for good, _, _ in told])
        self.assertEqual(repr([(COPY_PLAN, PICK_COUNTER, RUN)]), before)

    def test_what_is_returned_shares_no_state(self):
        for call in (lambda: kept.plan_for(COPY), lambda: kept.kept_paper(COPY)[1], lambda: counters.counter_for(PICK),
                     lambda: fewest.needs(COPY), lambda: fewest.most_table(COPY, 1), lambda: fewest.least_table(COPY, 1),
                     lambda: fewest.sparing_plan(COPY)):
            first = call()
            again = dict(first)
            first.clear()
            self.assertEqual(call(), again)


if __name__ == "__main__":
    unittest.main()
