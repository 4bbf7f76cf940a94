"""The errors: [0.8]."""

import unittest

from stepdown import errors

NAMES = (
    "BadMachine", "BadMark", "BadText", "BadCells", "BadTiles",
    "TooLarge", "ManyRows", "BadPlace", "TooMany", "BadChain",
)


class ErrorsTest(unittest.TestCase):
    def test_the_base_is_a_value_error(self):
        self.assertTrue(issubclass(errors.StairError, ValueError))
        self.assertEqual(errors.StairError.__module__, "stepdown.errors")

    def test_each_error_is_a_stair_error(self):
        for name in NAMES:
            self.assertTrue(issubclass(getattr(errors, name), errors.StairError), name)
            self.assertEqual(getattr(errors, name).__module__, "stepdown.errors")

    def test_no_error_is_a_subclass_of_another_one(self):
        for name in NAMES:
            for other in NAMES:
                if name != other:
                    self.assertFalse(issubclass(getattr(errors, name), getattr(errors, other)), (name, other))

    def test_there_are_no_others(self):
        classes = [name for name, value in vars(errors).items() if isinstance(value, type)]
        self.assertEqual(sorted(classes), sorted(NAMES + ("StairError",)))

    def test_they_are_raised_and_caught(self):
        for name in NAMES:
            with self.assertRaises(errors.StairError):
                raise getattr(errors, name)(3)

    def test_attributes(self):
        self.assertEqual(errors.BadText(7).line, 7)
        self.assertIn("7", str(errors.BadText(7)))
        self.assertEqual(errors.BadChain(2).index, 2)
        self.assertIn("2", str(errors.BadChain(2)))
