"""Roots rounded down and up (point [2])."""

import unittest

from sureplace.numbers.quotients import quotient_up
from sureplace.numbers.roots import root_down, root_up


class Roots(unittest.TestCase):
    def test_the_examples(self):
        for number, down, up in ((0, 0, 0), (3, 1, 2), (4, 2, 2), (13, 3, 4), (16, 4, 4)):
            self.assertEqual(root_down(number), down, number)
            self.assertEqual(root_up(number), up, number)

    def test_small_numbers_by_counting(self):
        for number in range(2000):
            down = max(root for root in range(number + 1) if root * root <= number)
            up = min(root for root in range(number + 1) if root * root >= number)
            self.assertEqual((root_down(number), root_up(number)), (down, up), number)

    def test_squares_and_their_neighbours(self):
        for root in (1, 2, 3, 10, 10 ** 8 + 1, 2 ** 53, 2 ** 53 + 1, 10 ** 15, 10 ** 40 + 7, 3 ** 400):
            square = root * root
            self.assertEqual((root_down(square), root_up(square)), (root, root))
            self.assertEqual(root_down(square - 1), root - 1)
            self.assertEqual(root_up(square + 1), root + 1)
            self.assertEqual(root_up(square - 1), root if root > 1 else 0)
            self.assertEqual(root_down(square + 1), root)

    def test_very_large_numbers(self):
        for number in (10 ** 999, 2 ** 5001 - 1, 7 ** 1001):
            down, up = root_down(number), root_up(number)
            self.assertTrue(down ** 2 <= number < (down + 1) ** 2)
            self.assertTrue((up - 1) ** 2 < number <= up ** 2)

    def test_they_are_integers(self):
        for number in (0, 1, 2, 10 ** 30):
            self.assertIs(type(root_down(number)), int)
            self.assertIs(type(root_up(number)), int)

    def test_quotients_rounded_up(self):
        for number in range(-20, 21):
            for by in range(1, 8):
                up = quotient_up(number, by)
                self.assertTrue(up * by >= number > (up - 1) * by, (number, by))


if __name__ == "__main__":
    unittest.main()
