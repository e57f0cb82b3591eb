"""Witnesses and their ways (points [47] and [48])."""

import copy
import math
import unittest
from fractions import Fraction

from sureplace.witness.ways import Witness, ascend, way_at
from tests.helpers import dice


class Witnesses(unittest.TestCase):
    def test_the_fields(self):
        points = ((0, 1, 2, 3), (4, 5, 6, 7))
        witness = Witness(("a",), points)
        self.assertEqual((witness.liars, witness.points), (("a",), points))
        self.assertEqual(Witness(liars=(), points=()).points, ())

    def test_equality(self):
        witness = Witness(("a",), ((0, 1, 2, 3),))
        self.assertEqual(witness, Witness(("a",), ((0, 1, 2, 3),)))
        for other in (Witness(("b",), ((0, 1, 2, 3),)), Witness(("a",), ((0, 1, 2, 4),)), Witness(("a",), ())):
            self.assertNotEqual(witness, other)
        for other in (None, 1, (("a",), ((0, 1, 2, 3),)), [witness]):
            self.assertIs(witness == other, False)
            self.assertIs(witness != other, True)


class Ascend(unittest.TestCase):
    def test_the_moments_count(self):
        for moments, told in (((), True), ((5,), True), ((-3, 0, 1, 10 ** 20), True), ((1, 1), False),
                              ((2, 1), False), ((0, 1, 2, 2), False), ((0, 2, 1), False), ((1, 0, 2), False)):
            points = [(moment, 9 - at, 0, 0) for at, moment in enumerate(moments)]
            self.assertIs(ascend(points), told, moments)
            self.assertIs(ascend(tuple(points)), told, moments)


class WayAt(unittest.TestCase):
    POINTS = ((0, 0, 10, -3), (4, 8, 9, 3), (10, 8, -9, 3))

    def test_at_points_before_and_after(self):
        first, second, last = (((0, 0), (10, 10), (-3, -3)), ((8, 8), (9, 9), (3, 3)), ((8, 8), (-9, -9), (3, 3)))
        for moment, told in ((0, first), (4, second), (10, last), (-1, first), (-10 ** 20, first), (11, last),
                             (10 ** 20, last)):
            self.assertEqual(way_at(self.POINTS, moment), told, moment)
            self.assertEqual(way_at(list(self.POINTS), moment), told, moment)

    def test_between_two_points(self):
        self.assertEqual(way_at(self.POINTS, 1), ((2, 2), (9, 10), (-2, -1)))
        self.assertEqual(way_at(self.POINTS, 2), ((4, 4), (9, 10), (0, 0)))
        self.assertEqual(way_at(self.POINTS, 3), ((6, 6), (9, 10), (1, 2)))
        self.assertEqual(way_at(self.POINTS, 7), ((8, 8), (0, 0), (3, 3)))
        self.assertEqual(way_at(self.POINTS, 9), ((8, 8), (-6, -6), (3, 3)))

    def test_numbers_below_0_are_rounded_down_and_up(self):
        points = ((0, -1, 1, -5), (3, -2, 2, -5))
        self.assertEqual(way_at(points, 1), ((-2, -1), (1, 2), (-5, -5)))
        self.assertEqual(way_at(points, 2), ((-2, -1), (1, 2), (-5, -5)))

    def test_one_point(self):
        for moment in (-7, 3, 99):
            self.assertEqual(way_at([(3, 1, 2, 3, 4)], moment), ((1, 1), (2, 2), (3, 3), (4, 4)))

    def test_any_ways(self):
        chance = dice(91)
        for _ in range(300):
            dims = chance.choice((2, 3))
            moments = sorted(chance.sample(range(-30, 31), chance.randint(1, 9)))
            points = tuple((moment,) + tuple(chance.randint(-9, 9) for _ in range(dims + 1)) for moment in moments)
            before = copy.deepcopy(points)
            for moment in range(-32, 33):
                box = way_at(points, moment)
                self.assertIs(type(box), tuple)
                if moment <= moments[0] or moment >= moments[-1]:
                    end = points[0] if moment <= moments[0] else points[-1]
                    self.assertEqual(box, tuple((number, number) for number in end[1:]))
                    continue
                one = [point for point in points if point[0] <= moment][-1]
                two = [point for point in points if point[0] > moment][0]
                part = Fraction(moment - one[0], two[0] - one[0])
                exact = [a + part * (b - a) for a, b in zip(one[1:], two[1:])]
                self.assertEqual(box, tuple((math.floor(number), math.ceil(number)) for number in exact))
            self.assertEqual(points, before)

    def test_large_numbers(self):
        far = 10 ** 40
        points = ((-far, -far, 0, 0), (far, far, 1, 0))
        self.assertEqual(way_at(points, 7), ((7, 7), (0, 1), (0, 0)))


if __name__ == "__main__":
    unittest.main()
