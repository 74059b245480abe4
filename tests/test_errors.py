"""Point 4, and the classes of errors of the interface."""

import unittest

from sillwatch import errors

NAMES = [
    "BadMessage", "MessageTooLong", "BadArguments", "BadLength", "BadText", "BadPadding", "ObjectMissing", "Fault",
    "BadKeymap", "BadOutputs", "NoSuchPicture", "OutsidePicture", "TooManyPixels", "RegionTooLarge",
    "RegionTooComplex", "BadPolicy", "BadTime", "SlotIsTaken", "NothingAsked",
]


class Errors(unittest.TestCase):
    def test_base(self):
        self.assertTrue(issubclass(errors.DisplayError, ValueError))

    def test_all_derive_from_the_base(self):
        for name in NAMES:
            with self.subTest(name=name):
                self.assertTrue(issubclass(getattr(errors, name), errors.DisplayError))
                self.assertEqual(getattr(errors, name).__module__, "sillwatch.errors")

    def test_errors_of_arguments(self):
        for name in ["BadLength", "BadText", "BadPadding", "ObjectMissing"]:
            with self.subTest(name=name):
                self.assertTrue(issubclass(getattr(errors, name), errors.BadArguments))

    def test_errors_are_different(self):
        for name in NAMES:
            for other in NAMES:
                if name != other and other != "BadArguments":
                    self.assertFalse(issubclass(getattr(errors, name), getattr(errors, other)), (name, other))

    def test_fields_of_fault(self):
        fault = errors.Fault(7, 3, "no such object")
        self.assertEqual((fault.number, fault.code, fault.words), (7, 3, "no such object"))

    def test_fields_of_bad_keymap(self):
        error = errors.BadKeymap(12, "expected a name")
        self.assertEqual((error.place, error.words), (12, "expected a name"))

    def test_fields_of_bad_policy(self):
        error = errors.BadPolicy(2, 9, "expected ;")
        self.assertEqual((error.line, error.column, error.words), (2, 9, "expected ;"))


if __name__ == "__main__":
    unittest.main()
