"""Levels (points [85] to [88])."""

import copy
import itertools
import unittest

from sureplace.levels.levels import level_above, level_below
from sureplace.witness.ways import Witness, way_at
from tests.helpers import a_box, a_point, dice, places_of, root_at_most, squared


def at(*place, moment=0):
    """A witness of one point; the clock's offset is 99."""
    return Witness((), ((moment,) + place + (99,),))


def is_rounded_up(level, number):
    """Is the level the root of the number, rounded up?"""
    return root_at_most(number, level) and (level == 0 or not root_at_most(number, level - 1))


class Above(unittest.TestCase):
    def test_no_boxes(self):
        self.assertEqual((level_above((3, 4), []), level_above((3, 4, 5), ())), (0, 0))

    def test_examples(self):
        for boxes, level in (
                ([((3, 3), (4, 4), (0, 0))], 5), ([((0, 3), (0, 4), (0, 0))], 5), ([((0, 0), (0, 0), (0, 0))], 0),
                ([((-3, 1), (2, 2), (0, 0))], 4), ([((1, 1), (1, 1), (0, 0))], 2),
                ([((0, 0), (0, 0), (0, 0)), ((6, 6), (-8, 0), (0, 0)), ((9, 9), (0, 1), (0, 0))], 10)):
            self.assertEqual(level_above((0, 0), boxes), level, boxes)
            self.assertEqual(level_above((0, 0), tuple(boxes)), level, boxes)
        self.assertEqual(level_above((1, 2, 3), [((3, 3), (5, 5), (9, 9), (0, 0))]), 7)

    def test_the_clock_plays_no_part(self):
        for side in ((0, 0), (-10 ** 9, 10 ** 9), (500, 600)):
            self.assertEqual(level_above((0, 0), [((3, 3), (4, 4), side)]), 5)

    def test_large_numbers_are_exact(self):
        far = 10 ** 30
        self.assertEqual(level_above((0, 0), [((-far, -far), (0, 0), (0, 0))]), far)
        self.assertEqual(level_above((0, 0), [((-far, -far), (0, 1), (0, 0))]), far + 1)
        self.assertEqual(level_above((far, 1), [((-far, far), (1, 1), (0, 0))]), 2 * far)

    def test_by_all_corners(self):
        chance = dice(1)
        for _ in range(300):
            dims = chance.choice((2, 3))
            place = a_point(chance, dims)
            boxes = [a_box(chance, dims + 1) for _ in range(chance.randint(1, 4))]
            level = level_above(place, boxes)
            greatest = max(squared(place, corner) for box in boxes for corner in itertools.product(*box[:-1]))
            self.assertTrue(is_rounded_up(level, greatest), (place, boxes))
            # No place of the boxes is beyond the level.
            for inner in places_of(boxes[0][:-1]):
                self.assertTrue(root_at_most(squared(place, inner), level))
            again = boxes + boxes[:2]
            chance.shuffle(again)
            self.assertEqual(level_above(place, again), level)


class Below(unittest.TestCase):
    def test_no_witnesses(self):
        self.assertEqual((level_below((3, 4), 0, []), level_below((3, 4, 5), 7, ())), (0, 0))

    def test_examples(self):
        for witnesses, level in (
                ([at(3, 4)], 5), ([at(0, 0)], 0), ([at(1, 1)], 1), ([at(-5, 12)], 13), ([at(3, 5)], 5),
                ([at(3, 4), at(0, 1)], 5), ([at(0, 1), at(0, 7), at(2, 2), at(0, 7)], 7)):
            self.assertEqual(level_below((0, 0), 0, witnesses), level)
            self.assertEqual(level_below((0, 0), 0, tuple(witnesses)), level)
        self.assertEqual(level_below((1, 2, 3), 0, [at(3, 5, 9)]), 7)

    def test_where_the_way_is_at_the_moment(self):
        witness = Witness(("a",), ((0, 0, 0, 0), (4, 8, 2, 0), (6, 8, 10, 0)))
        for moment, level in ((-5, 0), (0, 0), (1, 2), (2, 4), (3, 6), (4, 8), (5, 10), (6, 12), (60, 12)):
            self.assertEqual(level_below((0, 0), moment, [witness]), level, moment)

    def test_the_liars_and_the_clock_play_no_part(self):
        self.assertEqual(level_below((0, 0), 0, [Witness(("a", "b"), ((0, 3, 4, -10 ** 9),))]), 5)

    def test_by_all_places_of_the_ways(self):
        chance = dice(2)
        for _ in range(300):
            dims, moment = chance.choice((2, 3)), chance.randint(-3, 12)
            place = a_point(chance, dims)
            witnesses = []
            for _ in range(chance.randint(1, 3)):
                moments = sorted(chance.sample(range(10), chance.randint(1, 4)))
                points = tuple((tick,) + a_point(chance, dims + 1) for tick in moments)
                witnesses.append(Witness((), points))
            level = level_below(place, moment, witnesses)
            ways = [places_of(way_at(witness.points, moment)[:-1]) for witness in witnesses]
            distances = [min(squared(place, inner) for inner in way) for way in ways]
            # The way that gives the level is nowhere nearer, and each way is somewhere less than 1 beyond it.
            self.assertTrue(any(number >= level ** 2 for number in distances))
            self.assertTrue(all(number < (level + 1) ** 2 for number in distances))
            again = witnesses + witnesses[:1]
            chance.shuffle(again)
            self.assertEqual(level_below(place, moment, again), level)

    def test_what_is_given_stays_as_it_is(self):
        boxes, witnesses = [((0, 3), (0, 4), (0, 0))], [Witness((), ((0, 3, 4, 0), (4, 8, 8, 0)))]
        before = copy.deepcopy((boxes, witnesses))
        level_above((0, 0), boxes), level_below((0, 0), 2, witnesses)
        self.assertEqual((boxes, witnesses), before)


if __name__ == "__main__":
    unittest.main()
