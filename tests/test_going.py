"""Reach and slip, farther than one can go, widened boxes (points [19], [20] and [21])."""

import copy
import unittest

from sureplace.motion.going import farther, reach, slip, widened
from sureplace.numbers.boxes import inside
from tests.helpers import a_box, a_setting, dice, places_of


class Reach(unittest.TestCase):
    def test_rounded_up(self):
        setting = a_setting(speed=3, drift=5, per=4)
        for ticks, far, off in ((0, 0, 0), (1, 1, 2), (2, 2, 3), (3, 3, 4), (4, 3, 5), (5, 4, 7), (8, 6, 10)):
            self.assertEqual((reach(setting, ticks), slip(setting, ticks)), (far, off), ticks)

    def test_no_speed_and_no_drift(self):
        self.assertEqual(reach(a_setting(speed=0, drift=7, per=1), 9), 0)
        self.assertEqual(slip(a_setting(speed=7, drift=0, per=1), 9), 0)

    def test_large_numbers(self):
        setting = a_setting(speed=10 ** 12, drift=10 ** 12 - 1, per=10 ** 12)
        self.assertEqual(reach(setting, 10 ** 30), 10 ** 30)
        self.assertEqual(slip(setting, 10 ** 30 + 1), 10 ** 30 - 10 ** 18 + 1)


class Farther(unittest.TestCase):
    ORIGIN = ((0, 0), (0, 0), (0, 0))

    def test_just_as_far_is_not_farther(self):
        setting = a_setting(speed=5, drift=0, per=1)
        for x, y, told in ((3, 4, False), (3, 5, True), (4, 4, True), (5, 0, False), (6, 0, True), (0, -5, False)):
            there = ((x, x), (y, y), (0, 0))
            self.assertIs(farther(setting, 1, self.ORIGIN, there), told, there)
            self.assertIs(farther(setting, 1, there, self.ORIGIN), told, there)

    def test_it_is_exact_and_not_by_the_reach(self):
        # In 1 tick it is 2.5, in 3 ticks 7.5.
        setting = a_setting(speed=5, drift=5, per=2)
        for ticks, distance, told in ((1, 2, False), (1, 3, True), (2, 5, False), (2, 6, True), (3, 7, False),
                                      (3, 8, True)):
            self.assertIs(farther(setting, ticks, self.ORIGIN, ((distance,) * 2, (0, 0), (0, 0))), told)
            self.assertIs(farther(setting, ticks, self.ORIGIN, ((0, 0), (0, 0), (-distance,) * 2)), told)

    def test_a_diagonal_is_exact(self):
        # The root of 2 is a little more than 1.41421356.
        there = ((1, 1), (1, 1), (0, 0))
        self.assertIs(farther(a_setting(speed=141421356, drift=0, per=10 ** 8), 1, self.ORIGIN, there), True)
        self.assertIs(farther(a_setting(speed=141421357, drift=0, per=10 ** 8), 1, self.ORIGIN, there), False)

    def test_clocks(self):
        setting = a_setting(speed=0, drift=1, per=3)
        for ticks, offset, told in ((3, 1, False), (2, 1, True), (6, 2, False), (6, 3, True), (0, 0, False)):
            self.assertIs(farther(setting, ticks, self.ORIGIN, ((0, 0), (0, 0), (offset, offset))), told)
            self.assertIs(farther(setting, ticks, self.ORIGIN, ((0, 0), (0, 0), (-offset, -offset))), told)

    def test_ticks_of_0(self):
        setting = a_setting(speed=9, drift=9, per=1)
        box = ((0, 2), (0, 2), (0, 2))
        self.assertIs(farther(setting, 0, box, ((2, 3), (2, 3), (2, 3))), False)
        for other in (((3, 3), (0, 0), (0, 0)), ((0, 0), (-1, -1), (0, 0)), ((0, 0), (0, 0), (3, 4))):
            self.assertIs(farther(setting, 0, box, other), True, other)

    def test_boxes_apart_touching_overlapping_and_within(self):
        setting = a_setting(speed=1, drift=1, per=1)
        box = ((0, 4), (0, 4), (0, 4))
        for other, told in ((((5, 6), (0, 1), (0, 1)), False), (((6, 6), (0, 1), (0, 1)), True),
                            (((5, 6), (5, 6), (0, 1)), True), (((4, 6), (4, 6), (4, 6)), False),
                            (((2, 6), (2, 6), (5, 6)), False), (((2, 6), (2, 6), (6, 6)), True),
                            (((1, 2), (1, 2), (1, 2)), False), (((-9, 9), (-9, 9), (-9, 9)), False)):
            self.assertIs(farther(setting, 1, box, other), told, other)
            self.assertIs(farther(setting, 1, other, box), told, other)

    def test_three_directions(self):
        setting = a_setting(3, speed=3, drift=0, per=1)
        origin = ((0, 0),) * 4
        self.assertIs(farther(setting, 1, origin, ((1, 1), (2, 2), (2, 2), (0, 0))), False)
        self.assertIs(farther(setting, 1, origin, ((2, 2), (2, 2), (2, 2), (0, 0))), True)


class Widened(unittest.TestCase):
    def test_by_the_reach_and_by_the_slip(self):
        setting = a_setting(speed=3, drift=1, per=2)
        box = ((0, 4), (-2, -2), (7, 8))
        self.assertEqual(widened(setting, 0, box), box)
        self.assertEqual(widened(setting, 1, box), ((-2, 6), (-4, 0), (6, 9)))
        self.assertEqual(widened(setting, 2, box), ((-3, 7), (-5, 1), (6, 9)))
        self.assertEqual(widened(a_setting(3, speed=1, drift=0, per=1), 2, ((0, 0),) * 4),
                         ((-2, 2), (-2, 2), (-2, 2), (0, 0)))

    def test_whoever_is_in_the_box_is_in_the_widened_one_later(self):
        chance = dice(21)
        for _ in range(200):
            setting = a_setting(speed=chance.randint(0, 5), drift=chance.randint(0, 5), per=chance.randint(1, 4))
            ticks, box = chance.randint(0, 3), a_box(chance, 3, -3, 3, 2)
            wide = widened(setting, ticks, box)
            self.assertTrue(inside(box, wide))
            for place in places_of(a_box(chance, 3, -6, 6, 2)):
                there = tuple((number, number) for number in place)
                if not farther(setting, ticks, box, there):
                    self.assertTrue(inside(there, wide), (box, place))

    def test_what_is_given_stays_as_it_is(self):
        setting, box, other = a_setting(), ((0, 1), (2, 3), (4, 5)), ((1, 1), (2, 2), (3, 3))
        before = copy.deepcopy([setting, box, other])
        farther(setting, 2, box, other), widened(setting, 2, box)
        self.assertEqual([setting, box, other], before)


if __name__ == "__main__":
    unittest.main()
