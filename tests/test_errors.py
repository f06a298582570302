"""The refusals: [5] and the interface's section on errors."""

import unittest

from jointrees import errors
from jointrees.errors import JoinError

NAMES = ["NoLayout", "NoHead", "NoColumn", "NoTree", "NoOrder", "NoTables", "NoDeed", "NoNumber", "NoRow",
         "NoText", "Bound", "TooMany"]


class Errors(unittest.TestCase):
    def test_join_error_stands_straight_under_value_error(self):
        self.assertEqual(JoinError.__bases__, (ValueError,))

    def test_each_class_stands_straight_under_join_error(self):
        for name in NAMES:
            with self.subTest(name):
                self.assertEqual(getattr(errors, name).__bases__, (JoinError,))

    def test_there_are_twelve_unlike_classes_and_no_other_one(self):
        self.assertEqual(len({getattr(errors, name) for name in NAMES}), 12)
        classes = [name for name, value in vars(errors).items() if isinstance(value, type)]
        self.assertEqual(sorted(classes), sorted(NAMES + ["JoinError"]))

    def test_each_is_made_with_a_text(self):
        for name in NAMES + ["JoinError"]:
            with self.subTest(name):
                with self.assertRaises(getattr(errors, name)) as caught:
                    raise getattr(errors, name)("why")
                self.assertEqual(str(caught.exception), "why")
                self.assertIsInstance(caught.exception, ValueError)
