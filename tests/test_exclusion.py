"""Rates, how readings are carried, what they exclude (points [13], [17] and [18])."""

import copy
import unittest

from sureplace.kinds.exclusion import carried, clock_rate, excludes, moved, rate
from sureplace.kinds.spans import span
from tests.helpers import KINDS, a_reading, a_setting, any_kind, dice
from tests.worlds import a_reading_of, a_world

ORIGIN = ((0, 0), (0, 0), (0, 0))


def at(x, y, offset=0):
    """The box of a single place."""
    return ((x, x), (y, y), (offset, offset))


class Rates(unittest.TestCase):
    def test_the_rates_of_the_kinds(self):
        told = {"range": (1, 0, 1), "clocked": (1, 1, 1), "differ": (2, 0, 2), "side": (3, 0, 0),
                "piece": (1, 0, 1), "boxes": (1, 0, 1)}
        for kind in KINDS:
            self.assertEqual((rate(kind), clock_rate(kind), moved(kind)), told[kind[0]], kind)

    def test_the_rate_of_a_side_is_a_root_rounded_up(self):
        for direction, root in (((3, 4), 5), ((-3, 4), 5), ((3, 5), 6), ((1, 1), 2), ((1, 0), 1), ((0, -7), 7),
                                ((2, 3, 6), 7), ((1, 2, 2), 3), ((1000, 1000, 1000), 1733)):
            self.assertEqual(rate(("side", direction)), root, direction)


class Carried(unittest.TestCase):
    # The reach is 2, 3, 5, 6 and the slip 1, 1, 2, 2 for 1, 2, 3, 4 ticks.
    SETTING = a_setting(speed=3, drift=1, per=2)

    def test_each_kind(self):
        for kind, told in (("range", 10 + 5), ("clocked", 10 + 5 + 2), ("differ", 20 + 10), ("side", 15),
                           ("piece", 10 + 5), ("boxes", 10 + 5)):
            kind = [other for other in KINDS if other[0] == kind][0]
            reading = a_reading(moment=5, kind=kind, late=1, near=10)
            self.assertEqual(carried(self.SETTING, reading, 7), told, kind)
            self.assertEqual(carried(self.SETTING, reading, 3), told, kind)

    def test_late_and_ticks_are_added_before_rounding(self):
        # 1 and 1 ticks: the reach of 2 ticks is 3, twice that of 1 tick would be 4.
        self.assertEqual(carried(self.SETTING, a_reading(moment=5, late=1), 6), 3)
        self.assertEqual(carried(self.SETTING, a_reading(moment=5, kind=KINDS[1], late=1), 6), 3 + 1)

    def test_ticks_of_0(self):
        for kind in KINDS:
            self.assertEqual(carried(self.SETTING, a_reading(moment=5, kind=kind), 5), 0)

    def test_the_bounds_play_no_part(self):
        one, two = a_reading(low=0, high=0, late=2), a_reading(low=-9, high=99, late=2)
        self.assertEqual(carried(self.SETTING, one, 4), carried(self.SETTING, two, 4))


class Excludes(unittest.TestCase):
    def test_just_equal_is_not_excluded(self):
        setting = a_setting(speed=3, drift=0, per=1)
        reading = a_reading(moment=0, low=10, high=10)
        for moment, least, greatest in ((0, 10, 10), (2, 4, 16), (-2, 4, 16), (3, 1, 19)):
            for distance in range(25):
                told = not least <= distance <= greatest
                self.assertIs(excludes(setting, reading, moment, at(distance, 0)), told, (moment, distance))

    def test_a_box_is_excluded_only_if_all_of_it_is(self):
        setting = a_setting(speed=0, drift=0, per=1)
        reading = a_reading(low=10, high=12)
        for low, high, told in ((0, 9, True), (0, 10, False), (12, 20, False), (13, 20, True), (0, 20, False)):
            self.assertIs(excludes(setting, reading, 0, ((low, high), (0, 0), (0, 0))), told, (low, high))

    def test_near_and_late(self):
        setting = a_setting(speed=2, drift=0, per=1)
        reading = a_reading(low=10, high=10, near=3, late=1)
        for distance in range(20):
            self.assertIs(excludes(setting, reading, 0, at(distance, 0)), not 5 <= distance <= 15)

    def test_the_clock(self):
        setting = a_setting(speed=0, drift=2, per=1)
        reading = a_reading(kind=("clocked", (0, 0)), low=10, high=10)
        for offset in range(-5, 20):
            self.assertIs(excludes(setting, reading, 0, at(3, 4, offset)), offset != 5)
            self.assertIs(excludes(setting, reading, 2, at(3, 4, offset)), not 1 <= offset <= 9)

    def test_it_is_the_span_that_counts(self):
        chance = dice(31)
        for _ in range(500):
            setting = a_setting(speed=chance.randint(0, 2), drift=chance.randint(0, 2), per=chance.randint(1, 3))
            low = chance.randint(-20, 20)
            reading = a_reading(moment=chance.randint(-3, 3), kind=any_kind(chance, 2), low=low,
                                high=low + chance.randint(0, 5), late=chance.randint(0, 1), near=chance.randint(0, 1))
            box = tuple((number, number + chance.randint(0, 4)) for number in (chance.randint(-9, 9) for _ in "xyz"))
            least, greatest = span(reading.kind, box)
            more = carried(setting, reading, 1)
            told = greatest + more < reading.low or least - more > reading.high
            self.assertIs(excludes(setting, reading, 1, box), told)

    def test_what_is_given_stays_as_it_is(self):
        setting, reading, box = a_setting(), a_reading(kind=KINDS[5], late=1), ((0, 1), (2, 3), (4, 5))
        before = copy.deepcopy([setting, reading, box])
        excludes(setting, reading, 3, box), carried(setting, reading, 3)
        self.assertEqual([setting, reading, box], before)


class Worlds(unittest.TestCase):
    def test_no_world_that_keeps_a_reading_is_in_a_box_that_it_excludes(self):
        chance = dice(32)
        excluded = 0
        for _ in range(150):
            setting = a_setting(speed=chance.choice((0, 1, 5, 10)), drift=chance.randint(0, 2), per=1)
            world = a_world(chance, setting, 8)
            reading = a_reading_of(chance, world)
            for moment, (place, offset) in enumerate(world):
                box = tuple((number - chance.randint(0, 2), number + chance.randint(0, 2))
                            for number in (*place, offset))
                self.assertFalse(excludes(setting, reading, moment, box))
                self.assertFalse(excludes(setting, reading, moment, at(*place, offset)))
                excluded += excludes(setting, reading, moment, at(place[0] + 200, place[1] - 200, offset))
        self.assertGreater(excluded, 0)

    def test_a_world_at_full_speed_is_just_not_excluded(self):
        setting = a_setting(speed=5, drift=2, per=1)
        reading = a_reading(kind=("clocked", (0, 0)), low=10, high=10, late=2, near=5)
        # It moves away from the point, which was 5 nearer than told, and its clock drifts, for 2 + 3 ticks.
        self.assertFalse(excludes(setting, reading, 3, at(9 + 15, 12 + 20, 5 * 2)))
        self.assertTrue(excludes(setting, reading, 3, at(9 + 15, 12 + 20, 5 * 2 + 1)))


if __name__ == "__main__":
    unittest.main()
