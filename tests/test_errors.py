"""Point 2: the classes of the refusals."""

import unittest

from figurefall import errors

REFUSALS = (
    "NotKept", "NameTaken", "HouseFull", "BadBase", "BadFigure", "BadRow", "BadWorth", "BadNumber",
    "NoRing", "NoPlace", "BadLength", "BadTarget", "NothingTold",
)


class ErrorClasses(unittest.TestCase):
    def test_fall_error_stands_straight_under_value_error(self):
        self.assertEqual(errors.FallError.__bases__, (ValueError,))

    def test_each_refusal_stands_straight_under_fall_error(self):
        for name in REFUSALS:
            with self.subTest(name=name):
                self.assertEqual(getattr(errors, name).__bases__, (errors.FallError,))
                self.assertEqual(getattr(errors, name).__name__, name)

    def test_each_refusal_has_a_class_of_its_own(self):
        self.assertEqual(len({getattr(errors, name) for name in REFUSALS}), 13)

    def test_each_can_be_raised_and_taken_as_value_error(self):
        for name in REFUSALS + ("FallError",):
            with self.subTest(name=name):
                with self.assertRaises(ValueError) as taken:
                    raise getattr(errors, name)("words")
                self.assertIsInstance(taken.exception, errors.FallError)


if __name__ == "__main__":
    unittest.main()
