"""Boxes, their parts and their cells (points [3] to [7])."""

import copy
import unittest

from sureplace.numbers.boxes import (
    cell_at, cut, half_side, halves, inside, is_small, middle, radius, widest)
from tests.helpers import a_box, dice, places_of, squared


class Inside(unittest.TestCase):
    def test_the_ends_are_included(self):
        box = ((0, 4), (-3, 3), (1, 1))
        self.assertIs(inside(box, box), True)
        self.assertIs(inside(((1, 3), (-3, -3), (1, 1)), box), True)

    def test_each_end_of_each_side_counts(self):
        box = ((0, 4), (-3, 3), (1, 1))
        for axis in range(3):
            low, high = box[axis]
            for side in ((low - 1, high), (low, high + 1), (low - 1, low - 1), (high + 1, high + 1)):
                other = box[:axis] + (side,) + box[axis + 1:]
                self.assertIs(inside(other, box), False, other)

    def test_a_box_is_not_inside_its_part(self):
        self.assertIs(inside(((0, 4), (0, 4)), ((0, 4), (0, 3))), False)
        self.assertIs(inside(((0, 1),), ((2, 3),)), False)

    def test_it_is_the_same_as_for_places(self):
        chance = dice(3)
        for _ in range(300):
            box, other = a_box(chance, 2, -2, 2, 3), a_box(chance, 2, -2, 2, 4)
            there = places_of(other)
            self.assertEqual(inside(box, other), all(place in there for place in places_of(box)))


class Middles(unittest.TestCase):
    def test_middles_are_rounded_down(self):
        self.assertEqual(middle(((0, 4), (0, 5), (-5, 0), (-3, -3))), (2, 2, -3, -3))
        self.assertEqual(middle(((-1, 0), (0, 1))), (-1, 0))

    def test_half_of_a_side_is_rounded_up(self):
        for side, half in (((0, 0), 0), ((5, 6), 1), ((0, 2), 1), ((0, 3), 2), ((-4, -1), 2), ((-4, 0), 2)):
            self.assertEqual(half_side(side), half, side)

    def test_large_sides(self):
        far = 10 ** 30
        self.assertEqual(half_side((-far, far + 1)), far + 1)
        self.assertEqual(middle(((-far, far + 1),)), (0,))

    def test_the_radius_is_rounded_up(self):
        # halves 3 and 4, exactly 5; halves 1 and 1, the root of 2
        self.assertEqual(radius(((0, 6), (0, 8), (0, 0))), 5)
        self.assertEqual(radius(((0, 5), (0, 7), (0, 0))), 5)
        self.assertEqual(radius(((3, 4), (4, 5), (10, 20))), 2)
        self.assertEqual(radius(((0, 0), (0, 0), (0, 0))), 0)
        self.assertEqual(radius(((0, 2), (0, 2), (0, 2), (0, 0))), 2)

    def test_the_clock_plays_no_part_in_the_radius(self):
        self.assertEqual(radius(((0, 6), (0, 8), (-100, 100))), 5)
        self.assertEqual(radius(((0, 6), (0, 100))), 3)

    def test_no_place_is_farther_than_the_radius(self):
        chance = dice(4)
        for _ in range(200):
            box = a_box(chance, 3)
            for place in places_of(box[:-1]):
                self.assertLessEqual(squared(place, middle(box)[:-1]), radius(box) ** 2)


class Cuts(unittest.TestCase):
    BOX = ((0, 4), (0, 6), (1, 1))

    def test_the_parts(self):
        self.assertEqual(cut(self.BOX, 0, 1), (((0, 1), (0, 6), (1, 1)), ((1, 4), (0, 6), (1, 1))))
        self.assertEqual(cut(self.BOX, 1, 5), (((0, 4), (0, 5), (1, 1)), ((0, 4), (5, 6), (1, 1))))
        self.assertEqual(cut(((0, 0), (0, 0), (-2, 2)), 2, 0), (((0, 0), (0, 0), (-2, 0)), ((0, 0), (0, 0), (0, 2))))

    def test_not_at_an_end_and_not_beyond(self):
        for place in (0, 4, -1, 5, 10 ** 20, -10 ** 20):
            self.assertIsNone(cut(self.BOX, 0, place), place)

    def test_not_where_there_is_no_place_between(self):
        self.assertIsNone(cut(self.BOX, 2, 1))
        self.assertIsNone(cut(((0, 1), (0, 0)), 0, 0))
        self.assertIsNone(cut(((0, 1), (0, 0)), 0, 1))

    def test_an_axis_that_there_is_not(self):
        for axis in (3, 4, -1, -2, -3, -4, 10 ** 20, -10 ** 20):
            self.assertIsNone(cut(self.BOX, axis, 1), axis)

    def test_the_parts_make_up_the_box(self):
        chance = dice(5)
        for _ in range(200):
            box, axis, place = a_box(chance, 2), chance.randint(-1, 2), chance.randint(-9, 15)
            parts = cut(box, axis, place)
            if parts is None:
                possible = 0 <= axis < 2 and box[axis][0] < place < box[axis][1]
                self.assertFalse(possible)
            else:
                whole = set(places_of(parts[0])) | set(places_of(parts[1]))
                self.assertEqual(whole, set(places_of(box)))

    def test_what_is_given_stays_as_it_is(self):
        box = ((0, 4), (0, 6), (1, 1))
        before = copy.deepcopy(box)
        cut(box, 0, 2), halves(box), middle(box), cell_at(box, "0101")
        self.assertEqual(box, before)


class Halves(unittest.TestCase):
    def test_the_widest_axis_is_the_first_of_several(self):
        self.assertEqual(widest(((0, 4), (0, 6), (1, 1))), 1)
        self.assertEqual(widest(((0, 6), (0, 6), (1, 7))), 0)
        self.assertEqual(widest(((0, 5), (0, 6), (1, 7))), 1)
        self.assertEqual(widest(((0, 5), (0, 6), (1, 8))), 2)
        self.assertEqual(widest(((7, 7), (0, 0), (1, 1))), 0)
        self.assertEqual(widest(((-9, -2), (100, 103))), 0)

    def test_the_halves(self):
        self.assertEqual(halves(((0, 4), (0, 7), (1, 1))), (((0, 4), (0, 3), (1, 1)), ((0, 4), (3, 7), (1, 1))))
        self.assertEqual(halves(((0, 2), (0, 0))), (((0, 1), (0, 0)), ((1, 2), (0, 0))))
        self.assertEqual(halves(((-3, 0), (0, 0))), (((-3, -2), (0, 0)), ((-2, 0), (0, 0))))

    def test_short_sides_have_no_halves(self):
        for box in (((0, 0), (0, 0)), ((0, 1), (0, 1)), ((0, 0), (5, 6), (0, 0)), ((3, 4), (3, 4), (3, 4))):
            self.assertIsNone(halves(box))

    def test_one_side_that_is_long_enough_will_do(self):
        for axis in range(3):
            box = ((0, 1),) * axis + ((0, 2),) + ((0, 1),) * (2 - axis)
            self.assertEqual(halves(box), cut(box, axis, 1))


class Small(unittest.TestCase):
    def test_each_side_counts_and_that_of_the_clock(self):
        box = ((0, 4), (1, 5), (2, 6))
        self.assertIs(is_small(box, 4), True)
        self.assertIs(is_small(box, 5), True)
        self.assertIs(is_small(box, 3), False)
        for axis in range(3):
            longer = box[:axis] + ((0, 5),) + box[axis + 1:]
            self.assertIs(is_small(longer, 4), False)

    def test_a_single_place(self):
        self.assertIs(is_small(((1, 1), (2, 2), (3, 3)), 0), True)
        self.assertIs(is_small(((1, 1), (2, 2), (3, 4)), 0), False)


class Cells(unittest.TestCase):
    def test_the_empty_address_is_the_box(self):
        self.assertEqual(cell_at(((0, 4), (0, 6), (1, 1)), ""), ((0, 4), (0, 6), (1, 1)))

    def test_the_cells_by_hand(self):
        box = ((0, 4), (0, 6), (1, 1))
        self.assertEqual(cell_at(box, "0"), ((0, 4), (0, 3), (1, 1)))
        self.assertEqual(cell_at(box, "1"), ((0, 4), (3, 6), (1, 1)))
        self.assertEqual(cell_at(box, "10"), ((0, 2), (3, 6), (1, 1)))
        self.assertEqual(cell_at(box, "101"), ((0, 2), (4, 6), (1, 1)))
        self.assertEqual(cell_at(box, "0110"), ((2, 3), (1, 3), (1, 1)))

    def test_no_cell_below_one_without_halves(self):
        self.assertIsNone(cell_at(((0, 1), (0, 1)), "0"))
        self.assertIsNone(cell_at(((0, 2), (0, 0)), "00"))
        self.assertIsNone(cell_at(((0, 2), (0, 0)), "0011"))
        self.assertEqual(cell_at(((0, 3), (0, 0)), "10"), ((1, 2), (0, 0)))
        self.assertIsNone(cell_at(((0, 3), (0, 0)), "00"))

    def test_each_cell_is_a_half_of_the_one_above(self):
        chance = dice(6)
        for _ in range(200):
            box = a_box(chance, 3, -5, 5, 20)
            address = "".join(chance.choice("01") for _ in range(chance.randint(1, 12)))
            above, cell = cell_at(box, address[:-1]), cell_at(box, address)
            parts = None if above is None else halves(above)
            self.assertEqual(cell, None if parts is None else parts[int(address[-1])])

    def test_a_deep_cell(self):
        box = ((0, 2 ** 240), (0, 0), (0, 0))
        self.assertEqual(cell_at(box, "1" * 240), ((2 ** 240 - 1, 2 ** 240), (0, 0), (0, 0)))
        self.assertIsNone(cell_at(box, "1" * 241))


if __name__ == "__main__":
    unittest.main()
