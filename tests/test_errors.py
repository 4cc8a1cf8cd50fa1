"""[1.1] and [1.2]: the errors, what they are derived from and what they keep."""

import unittest

from eitherhand import errors
from samples import all_sorts

PLAIN = (
    "InvalidWord", "InvalidPromise", "InvalidPlace", "InvalidCall", "InvalidRun", "InvalidWorld",
    "InvalidPlan", "InvalidBook", "InvalidOperation",
)
KEEPING = {
    "UnknownFact": (KeyError, "asked"),
    "NotKept": (LookupError, "wanted"),
    "NothingToUndo": (IndexError, "amount"),
    "TooMany": (OverflowError, "limit"),
    "Refused": (ArithmeticError, "cause"),
    "InvalidNumber": (RuntimeError, "number"),
}


class ErrorsTest(unittest.TestCase):
    def test_promise_errors_are_directly_derived(self):
        self.assertEqual(errors.PromiseError.__bases__, (ValueError,))
        for name in (*PLAIN, "ParseError"):
            self.assertEqual(getattr(errors, name).__bases__, (errors.PromiseError,), name)

    def test_the_others_are_directly_derived_from_other_errors(self):
        for name, (base, _) in KEEPING.items():
            self.assertEqual(getattr(errors, name).__bases__, (base,), name)
            self.assertFalse(issubclass(getattr(errors, name), errors.PromiseError), name)

    def test_no_error_is_derived_from_another_one(self):
        names = [*PLAIN, "ParseError", *KEEPING]
        for one in names:
            for other in names:
                if one != other:
                    self.assertFalse(issubclass(getattr(errors, one), getattr(errors, other)))

    def test_a_message_is_taken(self):
        for name in ("PromiseError", *PLAIN):
            self.assertEqual(str(getattr(errors, name)("what is wrong")), "what is wrong")

    def test_a_parse_error_keeps_its_line(self):
        for line in [None, 0, 3, *all_sorts()]:
            for error in (errors.ParseError(line), errors.ParseError(line=line)):
                self.assertIs(type(error.line), type(line))
                self.assertEqual(error.line, line)

    def test_each_other_error_keeps_its_argument(self):
        for name, (_, attribute) in KEEPING.items():
            for value in all_sorts():
                for error in (getattr(errors, name)(value), getattr(errors, name)(**{attribute: value})):
                    kept = getattr(error, attribute)
                    self.assertIs(type(kept), type(value))
                    self.assertEqual(kept, value)

    def test_what_is_kept_shares_no_state(self):
        for name, attribute in [("ParseError", "line"), *((n, KEEPING[n][1]) for n in KEEPING)]:
            inner = [1]
            value = {"a": [inner], "b": (inner, {"c": inner})}
            error = getattr(errors, name)(value)
            inner.append(2)
            value["d"] = 3
            self.assertEqual(getattr(error, attribute), {"a": [[1]], "b": ([1], {"c": [1]})})

    def test_each_can_be_raised_and_caught_by_its_base(self):
        for name, (base, attribute) in KEEPING.items():
            with self.assertRaises(base) as caught:
                raise getattr(errors, name)(7)
            self.assertEqual(getattr(caught.exception, attribute), 7)
            self.assertIsInstance(str(caught.exception), str)
        with self.assertRaises(ValueError) as caught:
            raise errors.ParseError(2)
        self.assertEqual(caught.exception.line, 2)
        self.assertIsInstance(str(caught.exception), str)


if __name__ == "__main__":
    unittest.main()
