"""[1.2]: the classes of the errors."""

import unittest

from doppelganger import errors

CLASSES = ["NotAllowed", "BadForm", "BadName", "BadKind", "TooLarge", "Missing", "Same", "Apart"]


class ErrorsTest(unittest.TestCase):
    def test_base_class(self):
        self.assertEqual(errors.DoppelError.__bases__, (ValueError,))

    def test_each_class_is_directly_under_the_base_class(self):
        for name in CLASSES:
            with self.subTest(name):
                self.assertEqual(getattr(errors, name).__bases__, (errors.DoppelError,))

    def test_classes_are_different(self):
        self.assertEqual(len({getattr(errors, name) for name in CLASSES}), 8)

    def test_errors_can_be_raised_with_a_text(self):
        for name in CLASSES:
            with self.subTest(name), self.assertRaises(errors.DoppelError):
                raise getattr(errors, name)("why")


if __name__ == "__main__":
    unittest.main()
