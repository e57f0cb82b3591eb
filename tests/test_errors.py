"""The errors of the package (point [1] and the interface)."""

import unittest

from sureplace.errors import InvalidLine, InvalidText, SurePlaceError
from tests.helpers import ERRORS, ONE_ARGUMENT


class Errors(unittest.TestCase):
    def test_the_base_is_a_value_error(self):
        self.assertEqual(SurePlaceError.__bases__, (ValueError,))
        self.assertEqual(str(SurePlaceError("so")), "so")

    def test_each_stands_directly_under_the_base(self):
        for error in ERRORS:
            self.assertEqual(error.__bases__, (SurePlaceError,), error)
            for other in ERRORS:
                self.assertEqual(issubclass(error, other), error is other)

    def test_they_are_made_with_an_integer_or_a_text(self):
        for error in ONE_ARGUMENT:
            self.assertEqual(str(error(7)), "7")
            self.assertEqual(str(error("seven")), "seven")
            with self.assertRaises(SurePlaceError):
                raise error(7)

    def test_the_place_of_a_text(self):
        error = InvalidText(4)
        self.assertEqual(error.place, 4)
        self.assertIsInstance(error, ValueError)
        self.assertEqual(InvalidText(place=0).place, 0)

    def test_the_line_and_the_place(self):
        error = InvalidLine(2, 5)
        self.assertEqual((error.line, error.place), (2, 5))
        self.assertEqual(InvalidLine(line=0, place=1).line, 0)
        self.assertIsInstance(error, ValueError)

    def test_they_are_equal_only_to_themselves(self):
        for error in ONE_ARGUMENT:
            one = error(1)
            self.assertEqual(one, one)
            self.assertNotEqual(one, error(1))
        self.assertNotEqual(InvalidText(1), InvalidText(1))
        self.assertNotEqual(InvalidLine(1, 1), InvalidLine(1, 1))
        self.assertNotEqual(InvalidText(1), 1)


if __name__ == "__main__":
    unittest.main()
