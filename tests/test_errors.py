"""The classes of errors, and which takes which."""

import unittest

from rulesheet import errors
from rulesheet.errors import BadSize, OffSheet, SheetError, TooDeep

KINDS = (BadSize, OffSheet, TooDeep)


class ErrorsTest(unittest.TestCase):
    def test_bases_are_as_listed(self):
        self.assertEqual(SheetError.__bases__, (ValueError,))
        for kind in KINDS:
            self.assertEqual(kind.__bases__, (SheetError,))

    def test_names_and_file(self):
        for name in ("SheetError", "BadSize", "OffSheet", "TooDeep"):
            kind = getattr(errors, name)
            self.assertEqual(kind.__name__, name)
            self.assertEqual(kind.__module__, "rulesheet.errors")

    def test_each_is_taken_as_itself_and_as_its_bases(self):
        for kind in KINDS:
            for taker in (kind, SheetError, ValueError):
                with self.assertRaises(taker):
                    raise kind("no")

    def test_sheet_error_is_taken_as_value_error(self):
        with self.assertRaises(ValueError):
            raise SheetError("no")

    def test_no_refusal_is_taken_as_another_one(self):
        for kind in KINDS:
            for other in KINDS:
                self.assertEqual(issubclass(kind, other), kind is other)
            self.assertFalse(issubclass(SheetError, kind))

    def test_other_errors_are_not_taken(self):
        for other in (ValueError, KeyError, IndexError, TypeError, RecursionError):
            for kind in (SheetError,) + KINDS:
                self.assertFalse(issubclass(other, kind))
        for kind in (SheetError,) + KINDS:
            self.assertFalse(issubclass(kind, (LookupError, TypeError, ArithmeticError, RuntimeError)))

    def test_an_error_carries_its_words(self):
        for kind in (SheetError,) + KINDS:
            self.assertEqual(str(kind("some words")), "some words")
            self.assertEqual(str(kind()), "")


if __name__ == "__main__":
    unittest.main()
