"""Stage 1: the errors [1.1] [1.2]."""

import unittest

from huebill import errors
from tests.helper import OTHER_KINDS, Case

TOLD = ("InvalidName", "InvalidWeb", "InvalidGroup", "InvalidCharge", "InvalidOrder", "InvalidPlan",
        "InvalidOperation", "ParseError")
KEEPING = {
    "InvalidNumber": (IndexError, "value"), "UnknownName": (KeyError, "name"), "TooMany": (OverflowError, "limit"),
    "NothingToUndo": (LookupError, "many"), "Broken": (ArithmeticError, "label"), "Spoiled": (RuntimeError, "group"),
}


class Errors(Case):
    def test_classes_of_bill_error(self):
        self.assertEqual(errors.BillError.__bases__, (ValueError,))
        for name in TOLD:
            self.assertEqual(getattr(errors, name).__bases__, (errors.BillError,), name)

    def test_classes_of_the_others(self):
        for name, (base, _) in KEEPING.items():
            self.assertEqual(getattr(errors, name).__bases__, (base,), name)
            self.assertFalse(issubclass(getattr(errors, name), ValueError), name)

    def test_nothing_else_is_an_error_here(self):
        found = [name for name, value in vars(errors).items() if isinstance(value, type)]
        self.assertEqual(sorted(found), sorted(["BillError", *TOLD, *KEEPING]))
        for name in found:
            self.assertEqual(getattr(errors, name).__module__, "huebill.errors")

    def test_messages(self):
        for name in ("BillError",) + TOLD[:-1]:
            self.assertEqual(str(getattr(errors, name)("what is wrong")), "what is wrong")

    def test_what_is_kept(self):
        self.assertEqual(errors.ParseError(3).index, 3)
        for name, (_, attribute) in KEEPING.items():
            for value in OTHER_KINDS:
                kept = getattr(getattr(errors, name)(value), attribute)
                self.assertIs(kept, value)

    def test_texts(self):
        for value in OTHER_KINDS:
            self.assertEqual(str(errors.InvalidNumber(value)), repr(value))
            self.assertEqual(str(errors.UnknownName(value)), repr(value))
        self.assertEqual(str(errors.InvalidNumber(-3)), "-3")
        self.assertEqual(str(errors.UnknownName("a")), "'a'")

    def test_caught_by_their_bases(self):
        for name, (base, attribute) in KEEPING.items():
            with self.assertRaises(base) as caught:
                raise getattr(errors, name)("x")
            self.assertEqual(getattr(caught.exception, attribute), "x")


if __name__ == "__main__":
    unittest.main()
