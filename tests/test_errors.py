"""[1.1]: the errors."""

import unittest

from dealtrows import errors
from samples import odd_values

PLAIN = (
    "InvalidSchema", "InvalidDatabase", "InvalidClause", "InvalidQuery", "InvalidRule", "InvalidPlacement",
    "InvalidCase", "InvalidRow", "InvalidAnswer", "InvalidOperation")
KEEPING = {"ParseError": "line", "BrokenConstraint": "constraint", "Rejected": "reason"}
OUTSIDE = {
    "UnknownName": (KeyError, "name"), "MissingRow": (LookupError, "row"), "NothingToUndo": (IndexError, "many"),
    "TooMany": (OverflowError, "limit"), "InvalidNumber": (RuntimeError, "value"),
    "NoNodes": (ZeroDivisionError, "value")}


class ErrorsTest(unittest.TestCase):
    def test_base(self):
        self.assertEqual(errors.DealError.__bases__, (ValueError,))
        self.assertIn("told", str(errors.DealError("told")))

    def test_plain_errors(self):
        for name in PLAIN:
            error = getattr(errors, name)
            self.assertEqual(error.__bases__, (errors.DealError,), name)
            with self.assertRaises(ValueError) as caught:
                raise error("a message")
            self.assertIs(caught.exception.__class__, error)
            self.assertIn("a message", str(caught.exception))

    def test_keeping_errors_below_the_base(self):
        for name, attribute in KEEPING.items():
            error = getattr(errors, name)
            self.assertEqual(error.__bases__, (errors.DealError,), name)
            self.check_keeps(error, attribute)
            with self.assertRaises(ValueError):
                raise error(3)

    def test_errors_of_pythons_own_kinds(self):
        for name, (base, attribute) in OUTSIDE.items():
            error = getattr(errors, name)
            self.assertEqual(error.__bases__, (base,), name)
            self.assertFalse(issubclass(error, errors.DealError))
            self.check_keeps(error, attribute)
            with self.assertRaises(base) as caught:
                raise error("kept")
            self.assertEqual(getattr(caught.exception, attribute), "kept")

    def check_keeps(self, error, attribute):
        for value in odd_values():
            self.assertIs(getattr(error(value), attribute), value)
        first, second = error(("first",)), error(["second"])
        self.assertEqual(getattr(first, attribute), ("first",))
        self.assertEqual(getattr(second, attribute), ["second"])

    def test_no_error_is_derived_from_another_one(self):
        names = [*PLAIN, *KEEPING, *OUTSIDE]
        for name in names:
            for other in names:
                if name != other:
                    self.assertFalse(issubclass(getattr(errors, name), getattr(errors, other)), (name, other))

    def test_all_can_be_raised_and_caught_by_name(self):
        for name in [*PLAIN, *KEEPING, *OUTSIDE]:
            error = getattr(errors, name)
            with self.assertRaises(error):
                raise error("x")


if __name__ == "__main__":
    unittest.main()
