"""The refusals: all there, each under SortError alone, with their values."""

import unittest

from runsorts import errors

NAMES = [
    "BadKinds", "BadOrder", "BadRows", "BadRuns", "BadRoom", "BadLengths", "BadPlan", "BadPaper", "BadCount",
    "BadBlock", "Stopped", "Shut", "NotYet", "Empty", "BadText",
]


class Errors(unittest.TestCase):
    def test_any_refusal_is_a_value_error(self):
        self.assertEqual(errors.SortError.__bases__, (ValueError,))
        self.assertEqual(errors.SortError.__module__, "runsorts.errors")

    def test_each_stands_under_sort_error_alone(self):
        for name in NAMES:
            with self.subTest(name=name):
                refusal = getattr(errors, name)
                self.assertEqual(refusal.__bases__, (errors.SortError,))
                self.assertEqual(refusal.__name__, name)
                self.assertEqual(refusal.__module__, "runsorts.errors")

    def test_each_is_another_one(self):
        self.assertEqual(len({getattr(errors, name) for name in NAMES}), len(NAMES))

    def test_those_with_a_value_have_it_from_the_first(self):
        self.assertEqual(errors.BadRows(7).place, 7)
        self.assertEqual(errors.BadRuns(0).number, 0)
        self.assertEqual(errors.BadText(12).place, 12)

    def test_each_can_be_raised_and_caught_as_any_refusal(self):
        for name in NAMES:
            with self.subTest(name=name), self.assertRaises(errors.SortError):
                raise getattr(errors, name)(3)


if __name__ == "__main__":
    unittest.main()
