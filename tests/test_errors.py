"""The errors of the package."""

import unittest

from spandrel import errors

BELOW = ("BadMachine", "BadDemand", "BadLetters", "BadWord", "BadSet", "BadState", "BadText", "TooMuch")


class Errors(unittest.TestCase):
    def test_the_common_error_is_right_below_value_error(self):
        self.assertEqual(errors.SpandrelError.__bases__, (ValueError,))

    def test_each_other_error_is_right_below_the_common_one(self):
        for name in BELOW:
            with self.subTest(name):
                self.assertEqual(getattr(errors, name).__bases__, (errors.SpandrelError,))

    def test_none_is_below_another_one(self):
        for name in BELOW:
            for other in BELOW:
                with self.subTest(name, other=other):
                    below = issubclass(getattr(errors, name), getattr(errors, other))
                    self.assertEqual(below, name == other)

    def test_each_is_made_without_arguments(self):
        for name in BELOW + ("SpandrelError",):
            with self.subTest(name):
                made = getattr(errors, name)()
                self.assertEqual(made.args, ())
                with self.assertRaises(ValueError):
                    raise made


if __name__ == "__main__":
    unittest.main()
