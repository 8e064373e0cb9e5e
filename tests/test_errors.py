"""Tests of ringland.errors."""

import unittest

from ringland import errors
from ringland.errors import BadRings, BadSpot, ShapeError


class ErrorsTest(unittest.TestCase):
    def test_any_refusal_is_a_value_error(self):
        self.assertEqual(ShapeError.__bases__, (ValueError,))

    def test_both_refusals_stand_side_by_side(self):
        self.assertEqual(BadRings.__bases__, (ShapeError,))
        self.assertEqual(BadSpot.__bases__, (ShapeError,))
        self.assertFalse(issubclass(BadRings, BadSpot))
        self.assertFalse(issubclass(BadSpot, BadRings))

    def test_each_is_raised_and_caught_as_what_it_is(self):
        for kind in (ShapeError, BadRings, BadSpot):
            for caught in (kind, ShapeError, ValueError):
                with self.subTest(kind=kind, caught=caught), self.assertRaises(caught):
                    raise kind("no")

    def test_classes_are_defined_in_their_file(self):
        for kind in (ShapeError, BadRings, BadSpot):
            self.assertEqual(kind.__module__, errors.__name__)


if __name__ == "__main__":
    unittest.main()
