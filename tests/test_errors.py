"""The interface: quadwords/errors.py."""

import unittest

from quadwords import errors

NAMES = ["NoBack", "NoWord", "NoPlain", "NoWide", "TooLong", "NoMakers", "NoCount", "NoText", "NoName", "NoRow", "NoMill"]


class Errors(unittest.TestCase):
    def test_quad_error_stands_under_value_error(self):
        self.assertEqual(errors.QuadError.__bases__, (ValueError,))

    def test_each_class_is_there_straight_under_quad_error(self):
        for name in NAMES:
            with self.subTest(name=name):
                self.assertEqual(getattr(errors, name).__name__, name)
                self.assertEqual(getattr(errors, name).__bases__, (errors.QuadError,))

    def test_none_stands_under_another_one(self):
        classes = [getattr(errors, name) for name in NAMES]
        self.assertEqual(len({id(each) for each in classes}), len(NAMES))
        for one in classes:
            under = [other for other in classes if issubclass(one, other)]
            self.assertEqual(under, [one])

    def test_each_is_raised_and_taken_as_a_value_error(self):
        for name in NAMES:
            with self.assertRaises(ValueError):
                raise getattr(errors, name)("why")


if __name__ == "__main__":
    unittest.main()
