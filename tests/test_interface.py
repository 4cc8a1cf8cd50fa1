"""The head of the interface: which names there are, and where each one stands."""

import importlib
import inspect
import unittest

FUNCTIONS = {
    "eitherhand.base.words": {
        "is_integer": ["value"], "is_fact": ["value"], "is_hand": ["value"], "other_hand": ["hand"],
    },
}
ERRORS = (
    "PromiseError", "InvalidWord", "InvalidPromise", "InvalidPlace", "InvalidCall", "InvalidRun", "InvalidWorld",
    "InvalidPlan", "InvalidBook", "InvalidOperation", "ParseError", "UnknownFact", "NotKept", "NothingToUndo",
    "TooMany", "Refused", "InvalidNumber",
)
CLASSES = {"eitherhand.errors": ERRORS, "eitherhand.base.promises": ("Promise",)}
PROMISE = {
    "class methods": {"read": ["text"], "of": ["kind", "parts"], "fact": ["word"], "sure": [], "never": []},
    "properties": ["nodes", "text", "kind", "parts", "facts", "choices", "depth"],
    "methods": {
        "renamed": ["names"], "put": ["word", "other"], "with_part": ["index", "other"], "many": ["kind"],
        "__init__": ["nodes"],
    },
    "operators": [
        "__and__", "__or__", "__add__", "__mul__", "__neg__", "__len__", "__iter__", "__getitem__", "__contains__",
        "__eq__", "__str__",
    ],
}


class InterfaceTest(unittest.TestCase):
    def test_functions_stand_in_their_files(self):
        for name, functions in FUNCTIONS.items():
            module = importlib.import_module(name)
            for word, parameters in functions.items():
                function = getattr(module, word)
                self.assertEqual(function.__module__, name)
                self.assertEqual(list(inspect.signature(function).parameters), parameters)

    def test_classes_stand_in_their_files(self):
        for name, words in CLASSES.items():
            module = importlib.import_module(name)
            for word in words:
                self.assertTrue(inspect.isclass(getattr(module, word)), word)
                self.assertEqual(getattr(module, word).__module__, name)

    def test_the_class_itself_has_all_that_is_listed(self):
        own = vars(importlib.import_module("eitherhand.base.promises").Promise)
        for word, parameters in PROMISE["class methods"].items():
            self.assertIsInstance(own[word], classmethod)
            self.assertEqual(list(inspect.signature(own[word].__func__).parameters)[1:], parameters)
        for word in PROMISE["properties"]:
            self.assertIsInstance(own[word], property)
        for word, parameters in PROMISE["methods"].items():
            self.assertEqual(list(inspect.signature(own[word]).parameters)[1:], parameters)
        for word in PROMISE["operators"]:
            self.assertTrue(inspect.isfunction(own[word]), word)


if __name__ == "__main__":
    unittest.main()
