"""Point 3 and the interface of tensorcompiler.errors."""

import unittest

from tensorcompiler import errors

DIRECT = (
    "ZeroDenominator", "TextError", "RankError", "AxisError", "RangeError", "TooLarge", "KindError", "FormError",
    "TooWide", "FeedError", "RuleError", "UnsetWord", "KeptError", "ChangeError", "PlaceError", "NoRoom",
    "MachineError", "Trap", "AuditError", "TableError", "JournalError",
)
UNDER_AUDIT = ("Outside", "Racing", "NeverSet", "MayOverflow", "Unsettled")


class Errors(unittest.TestCase):
    def test_the_base(self):
        self.assertEqual(errors.TensorError.__bases__, (ValueError,))

    def test_each_class_stands_directly_under_its_base(self):
        for name in DIRECT:
            with self.subTest(name):
                self.assertEqual(getattr(errors, name).__bases__, (errors.TensorError,))
        for name in UNDER_AUDIT:
            with self.subTest(name):
                self.assertEqual(getattr(errors, name).__bases__, (errors.AuditError,))

    def test_all_are_defined_in_the_file_and_can_be_raised(self):
        for name in ("TensorError",) + DIRECT + UNDER_AUDIT:
            error = getattr(errors, name)
            self.assertEqual(error.__module__, "tensorcompiler.errors")
            with self.assertRaises(errors.TensorError):
                raise error("told")


if __name__ == "__main__":
    unittest.main()
