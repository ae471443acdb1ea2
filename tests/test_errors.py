"""The refusals: [3]."""

import unittest

from huesbelow import errors

NAMES = ["NoTree", "NoHues", "NoPlace", "NoPart", "NoNumber", "NoLeaf", "NoText", "NoForm", "NoneYet"]


class Refusals(unittest.TestCase):
    def test_hue_error_is_a_value_error(self):
        self.assertTrue(issubclass(errors.HueError, ValueError))

    def test_each_stands_under_hue_error(self):
        for name in NAMES:
            kind = getattr(errors, name)
            self.assertTrue(issubclass(kind, errors.HueError), name)
            self.assertTrue(issubclass(kind, ValueError), name)
            self.assertIsNot(kind, errors.HueError, name)

    def test_none_stands_under_another_one(self):
        for name in NAMES:
            for other in NAMES:
                if name != other:
                    self.assertFalse(issubclass(getattr(errors, name), getattr(errors, other)), (name, other))

    def test_each_is_raised_and_caught(self):
        for name in NAMES:
            with self.assertRaises(errors.HueError):
                raise getattr(errors, name)("why")
