"""The head of the interface: which names there are, and where each one stands."""

import importlib
import inspect
import unittest

from eitherhand.base.promises import Promise
from eitherhand.given.asking import Asker
from eitherhand.text.shell import Shell

FUNCTIONS = {
    "eitherhand.base.words": {
        "is_integer": ["value"], "is_fact": ["value"], "is_hand": ["value"], "other_hand": ["hand"],
    },
    "eitherhand.base.places": {
        "surface": ["promise"], "part_at": ["promise", "place"], "calls": ["promise", "hand"],
        "is_call": ["promise", "value"], "hand_of": ["promise", "call"], "called": ["promise", "call"],
        "replaced": ["promise", "place", "other"], "positions": ["promise"], "is_position": ["promise", "value"],
        "calls_to": ["promise", "text"],
    },
    "eitherhand.plain.worlds": {
        "is_world": ["promise", "value"], "worlds": ["promise"], "plain_form": ["promise"],
        "does_hold": ["promise", "world"], "is_stable": ["promise"], "false_worlds": ["promise"],
        "with_truth": ["promise", "fact", "truth"], "does_depend": ["promise", "fact"],
        "are_equal_plain": ["promise", "other"],
    },
    "eitherhand.play.runs": {
        "is_move": ["value"], "is_run": ["value"], "moves_at": ["promise", "hand"], "first_wrong": ["promise", "run"],
        "played": ["promise", "run"], "winner": ["promise", "run", "world"], "is_delay": ["hand", "run", "other"],
        "delays": ["hand", "run"], "sound_runs": ["promise", "most"], "count_runs": ["promise"],
    },
    "eitherhand.keep.plans": {
        "is_plan": ["promise", "value"], "does_go_by": ["promise", "plan", "run"], "due_call": ["promise", "plan", "run"],
        "taken_up": ["promise", "plan", "run"], "answered": ["promise", "plan", "calls"],
    },
    "eitherhand.keep.kept": {
        "is_kept": ["promise"], "plan_for": ["promise"], "kept_paper": ["promise"], "is_kept_paper": ["promise", "value"],
        "good_calls": ["promise"], "hurting_calls": ["promise"], "may_wait": ["promise"], "kept_positions": ["promise"],
    },
    "eitherhand.keep.counters": {
        "is_counter": ["promise", "value"], "is_habit": ["promise", "value"], "counter_for": ["promise"],
        "does_counter": ["promise", "counter", "run"], "due_counter": ["promise", "counter", "run"],
        "last_world": ["promise", "counter", "run"], "meeting": ["promise", "habit", "counter"],
        "caller_wins": ["promise", "counter", "calls"],
    },
    "eitherhand.keep.fewest": {
        "need": ["promise"], "needs": ["promise"], "most_table": ["promise", "many"],
        "is_most_table": ["promise", "many", "value"], "least_table": ["promise", "many"],
        "is_least_table": ["promise", "many", "value"], "cost": ["promise", "plan"], "sparing_plan": ["promise"],
        "is_sparing": ["promise", "value"], "sparing_calls": ["promise"],
    },
    "eitherhand.order.leads": {
        "bridge": ["one", "other"], "leads": ["one", "other"], "are_alike": ["one", "other"],
        "order_paper": ["one", "other"], "is_order_paper": ["one", "other", "value"], "copy_table": ["promise"],
        "joined_plan": ["one", "middle", "other", "first", "second"],
    },
    "eitherhand.order.shapes": {
        "branch_at": ["promise", "path"], "paths": ["promise"], "exchanged": ["promise", "path", "other"],
        "join": ["*promises"], "meet": ["*promises"], "tidied": ["promise"], "is_tidy": ["value"],
        "spread": ["promise", "path", "index"], "is_exchange": ["promise", "path", "other", "value"],
    },
    "eitherhand.given.sets": {
        "is_world_set": ["promise", "value"], "is_kept_in": ["promise", "worlds"], "set_paper": ["promise", "worlds"],
        "is_set_paper": ["promise", "worlds", "value"], "greatest_sets": ["promise"], "is_kept_alone": ["promise"],
        "is_kept_knowing": ["promise", "facts"], "least_facts": ["promise"], "knowing_paper": ["promise", "facts"],
        "is_knowing_paper": ["promise", "facts", "value"],
    },
    "eitherhand.given.books": {
        "is_book": ["value"], "claim": ["book", "promise"], "follows": ["book", "promise"],
        "needed": ["book", "promise"], "least_parts": ["book", "promise"], "book_paper": ["book", "promise"],
        "is_book_paper": ["book", "promise", "value"], "without_any": ["book", "promise"],
    },
    "eitherhand.text.texts": {
        "write": ["form", "value"], "read": ["form", "text"], "is_written": ["form", "value"],
    },
    "eitherhand.given.asking": {
        "is_kept_asking": ["promise", "most"], "questions": ["promise"], "asking_paper": ["promise", "most"],
        "is_asking_paper": ["promise", "most", "value"], "good_questions": ["promise", "most"],
    },
}
CONSTANTS = {
    "eitherhand.base.words": {"MAX_LETTERS": 8, "HANDS": ("caller", "keeper")},
    "eitherhand.base.promises": {
        "MAX_NODES": 40, "MAX_CHOICES": 10, "MAX_FACTS": 6, "MAX_DEPTH": 8, "KINDS": ("all", "mine", "some", "yours"),
    },
    "eitherhand.base.places": {"MAX_POSITIONS": 20000},
    "eitherhand.play.runs": {"MAX_MOVES": 12, "HANDS": ("caller", "keeper")},
    "eitherhand.keep.kept": {"MAX_POSITIONS": 20000},
    "eitherhand.keep.fewest": {"MAX_CALLS": 10},
    "eitherhand.given.sets": {"MAX_SETS": 2000},
    "eitherhand.given.books": {"MAX_GIVEN": 3},
    "eitherhand.use.project": {"MAX_NAMES": 6, "MAX_SAYINGS": 10, "MAX_CHANGES": 200},
    "eitherhand.given.asking": {"MAX_KEYS": 20000},
}
ERRORS = (
    "PromiseError", "InvalidWord", "InvalidPromise", "InvalidPlace", "InvalidCall", "InvalidRun", "InvalidWorld",
    "InvalidPlan", "InvalidBook", "InvalidOperation", "ParseError", "UnknownFact", "NotKept", "NothingToUndo",
    "TooMany", "Refused", "InvalidNumber",
)
GENERATORS = ("worlds", "delays", "sound_runs", "runs")
OPERATORS = {
    "__len__": [], "__iter__": [], "__contains__": ["value"], "__eq__": ["value"], "__str__": [],
}
ARITHMETIC = {"__and__": ["other"], "__or__": ["other"], "__add__": ["other"], "__mul__": ["other"], "__neg__": []}
# Of each class its module, its parameters, its properties, its methods and its class methods.
CLASSES = {
    "Promise": (
        "eitherhand.base.promises", ["nodes"], ["nodes", "text", "kind", "parts", "facts", "choices", "depth"],
        {"renamed": ["names"], "put": ["word", "other"], "with_part": ["index", "other"], "many": ["kind"],
         "__getitem__": ["index"], **ARITHMETIC},
        {"read": ["text"], "of": ["kind", "parts"], "fact": ["word"], "sure": [], "never": []},
    ),
    "Surface": (
        "eitherhand.base.places", ["promise"], ["promise", "places", "mine", "yours", "plain"],
        {"behind": ["call"], "moves": ["hand"], "is_over": [], "__getitem__": ["place"]}, {},
    ),
    "Plain": (
        "eitherhand.plain.worlds", ["promise"], ["promise", "form", "facts", "table", "true", "false"],
        {"at": ["world"], "needed": [], "with_fact": ["fact", "truth"]}, {},
    ),
    "Play": (
        "eitherhand.play.runs", ["promise"], ["promise", "position", "so_far"],
        {"call": ["hand", "place", "index"], "back": ["many"], "moves": ["hand"], "is_over": [], "leader": ["world"]}, {},
    ),
    "Plan": (
        "eitherhand.keep.plans", ["promise", "table"], ["promise", "table", "start"],
        {"at": ["text"], "lean": [], "most_calls": [], "runs": []}, {},
    ),
    "Keeper": (
        "eitherhand.keep.kept", ["promise"], ["promise", "position", "so_far"],
        {"hear": ["place", "index"], "answer": [], "settle": [], "back": ["many"]}, {},
    ),
    "Counter": (
        "eitherhand.keep.counters", ["promise", "table"], ["promise", "table", "rests"], {"at": ["text"], "lean": []}, {},
    ),
    "Order": (
        "eitherhand.order.leads", ["*promises"], ["promises", "pairs", "classes"],
        {"below": ["index"], "above": ["index"], "links": [], "with_promise": ["promise"]}, {},
    ),
    "Book": (
        "eitherhand.given.books", ["promises"], ["promises", "facts"],
        {"with_given": ["promise"], "without_given": ["index"], "joined": [], "keeps": ["promise"],
         "__getitem__": ["index"]}, {},
    ),
    "Project": (
        "eitherhand.use.project", ["promises"], ["promises", "sayings", "log"],
        {"put": ["name", "promise"], "remove": ["name"], "rename": ["name", "other"], "call": ["name", "place", "index"],
         "pin": ["saying"], "unpin": ["saying"], "does_hold": ["saying"], "trial": ["*changes"], "undo": ["=many"],
         "redo": ["=many"], "twin": []}, {},
    ),
    "Shell": (
        "eitherhand.text.shell", [], ["position", "lines"], {"run": ["line"], "run_all": ["*lines"]}, {},
    ),
    "Asker": (
        "eitherhand.given.asking", ["promise", "most"], ["promise", "position", "known", "left"],
        {"wish": [], "hear": ["place", "index"], "tell": ["fact", "truth"], "go": []}, {},
    ),
}
# Of some classes the methods of OPERATORS that they need not have.
WITHOUT = {"Shell": ("__contains__",), "Asker": ("__len__", "__iter__", "__contains__")}
SIGNS = {inspect.Parameter.VAR_POSITIONAL: "*", inspect.Parameter.KEYWORD_ONLY: "="}


def parameters(function):
    """The names of the parameters, those that take the rest and those after `*` with a sign."""
    return [SIGNS.get(one.kind, "") + name for name, one in inspect.signature(function).parameters.items()]


class InterfaceTest(unittest.TestCase):
    def test_functions_stand_in_their_files(self):
        for name, functions in FUNCTIONS.items():
            module = importlib.import_module(name)
            for word, names in functions.items():
                function = getattr(module, word)
                self.assertEqual(function.__module__, name)
                self.assertEqual(parameters(function), names)
                self.assertIs(inspect.isgeneratorfunction(function), word in GENERATORS, word)

    def test_constants(self):
        for name, constants in CONSTANTS.items():
            module = importlib.import_module(name)
            for word, value in constants.items():
                self.assertEqual(getattr(module, word), value)

    def test_errors_stand_in_their_file(self):
        module = importlib.import_module("eitherhand.errors")
        for word in ERRORS:
            self.assertTrue(inspect.isclass(getattr(module, word)), word)
            self.assertEqual(getattr(module, word).__module__, "eitherhand.errors")

    def test_the_class_itself_has_all_that_is_listed(self):
        for word, (name, own, properties, methods, class_methods) in CLASSES.items():
            made = getattr(importlib.import_module(name), word)
            self.assertEqual(made.__module__, name)
            self.assertEqual(parameters(made), own)
            for listed in properties:
                self.assertIsInstance(vars(made)[listed], property, (word, listed))
            wanted = {listed: names for listed, names in OPERATORS.items() if listed not in WITHOUT.get(word, ())}
            for listed, names in {**methods, **wanted}.items():
                self.assertTrue(inspect.isfunction(vars(made)[listed]), (word, listed))
                self.assertEqual(parameters(vars(made)[listed])[1:], names, (word, listed))
                self.assertIs(inspect.isgeneratorfunction(vars(made)[listed]), listed in GENERATORS, (word, listed))
            for listed, names in class_methods.items():
                self.assertIsInstance(vars(made)[listed], classmethod, (word, listed))
                self.assertEqual(parameters(vars(made)[listed].__func__)[1:], names, (word, listed))

    def test_default_values(self):
        for word in ("Play", "Keeper"):
            back = vars(getattr(importlib.import_module(CLASSES[word][0]), word))["back"]
            self.assertEqual(inspect.signature(back).parameters["many"].default, 1)
        project = vars(importlib.import_module("eitherhand.use.project"))["Project"]
        for word in ("undo", "redo"):
            self.assertEqual(inspect.signature(vars(project)[word]).parameters["many"].default, 1)

    def test_what_cannot_be_iterated_over(self):
        made = Asker(Promise.read("[a + !a]"), 1)
        for call in (lambda: iter(made), lambda: list(made), lambda: 1 in made, lambda: len(made), lambda: made[0]):
            with self.assertRaises(TypeError):
                call()
        with self.assertRaises(TypeError):
            Shell()[0]


if __name__ == "__main__":
    unittest.main()
