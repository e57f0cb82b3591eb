"""Spans of kinds (points [14], [15] and [16])."""

import unittest
from fractions import Fraction

from sureplace.kinds.spans import (
    between, distances, dot, farthest, from_piece, greatest_from, nearest, span)
from sureplace.numbers.boxes import inside, middle, radius
from sureplace.numbers.roots import root_down, root_up
from tests.helpers import (
    a_box, a_point, any_kind, dice, places_of, root_at_most, squared, squared_from_box, squared_from_piece,
    value_within)


class Distances(unittest.TestCase):
    BOX = ((0, 4), (2, 5))

    def test_nearest(self):
        for point, squares in (((2, 3), 0), ((0, 2), 0), ((4, 5), 0), ((-1, 3), 1), ((7, 9), 25), ((5, 2), 1),
                               ((2, 0), 4), ((-3, -2), 25)):
            self.assertEqual(nearest(point, self.BOX), squares, point)

    def test_farthest(self):
        for point, squares in (((2, 3), 8), ((0, 2), 25), ((4, 5), 25), ((-1, 3), 29), ((7, 9), 98), ((2, 4), 8)):
            self.assertEqual(farthest(point, self.BOX), squares, point)

    def test_they_are_those_of_the_whole_places(self):
        chance = dice(11)
        for _ in range(200):
            dims = chance.choice((2, 3))
            point, box = a_point(chance, dims), a_box(chance, dims, longest=4)
            squares = [squared(point, place) for place in places_of(box)]
            self.assertEqual((nearest(point, box), farthest(point, box)), (min(squares), max(squares)))
            self.assertEqual(distances(point, box), (root_down(min(squares)), root_up(max(squares))))

    def test_rounding(self):
        self.assertEqual(distances((0, 0), ((3, 4), (4, 5))), (5, 7))
        self.assertEqual(distances((0, 0), ((1, 1), (1, 1))), (1, 2))
        self.assertEqual(distances((0, 0), ((3, 3), (4, 4))), (5, 5))
        self.assertEqual(distances((0, 0), ((0, 0), (0, 0))), (0, 0))

    def test_very_large_numbers(self):
        far = 10 ** 30
        self.assertEqual(distances((0, 0), ((3 * far, 3 * far), (4 * far, 4 * far))), (5 * far, 5 * far))
        self.assertEqual(distances((0, 0), ((3 * far, 3 * far + 1), (4 * far, 4 * far))), (5 * far, 5 * far + 1))

    def test_dot(self):
        self.assertEqual(dot((1, 2), (3, 4)), 11)
        self.assertEqual(dot((1, -2, 3), (4, 5, -6)), -24)
        self.assertEqual(dot((0, 0), (7, 8)), 0)


class Pieces(unittest.TestCase):
    def test_beside_on_and_beyond(self):
        for point, squares in (((4, 3), 9), ((4, 0), 0), ((0, 0), 0), ((8, 0), 0), ((-3, 4), 25), ((11, -4), 25),
                               ((-2, 0), 4), ((9, 0), 1), ((0, 5), 25), ((8, -6), 36)):
            self.assertEqual(from_piece(point, (0, 0), (8, 0)), (squares, squares), point)
            self.assertEqual(from_piece(point, (8, 0), (0, 0)), (squares, squares), point)

    def test_a_piece_that_is_a_point(self):
        self.assertEqual(from_piece((4, 5), (1, 1), (1, 1)), (25, 25))
        self.assertEqual(from_piece((1, 1), (1, 1), (1, 1)), (0, 0))
        self.assertEqual(from_piece((1, 2, 3), (1, 1, 1), (1, 1, 1)), (5, 5))

    def test_fractions_are_rounded_exactly(self):
        # 8 / 5, 9 / 2, 4 / 5, and 9
        self.assertEqual(from_piece((2, 2), (0, 0), (3, 1)), (1, 2))
        self.assertEqual(from_piece((3, 0), (0, 0), (4, 4)), (4, 5))
        self.assertEqual(from_piece((3, 1), (0, -3), (4, 5)), (0, 1))
        self.assertEqual(from_piece((1, 3), (0, 0), (4, 0)), (9, 9))

    def test_they_are_rounded_from_the_exact_fraction(self):
        chance = dice(12)
        for _ in range(2000):
            dims = chance.choice((2, 3))
            point, at, to = (a_point(chance, dims, -4, 4) for _ in range(3))
            exact = squared_from_piece(point, at, to)
            down = exact.numerator // exact.denominator
            up = down if exact.denominator == 1 else down + 1
            self.assertEqual(from_piece(point, at, to), (down, up), (point, at, to))

    def test_fractions_of_very_large_numbers(self):
        far = 10 ** 30
        exact = squared_from_piece((far, far + 1), (0, 0), (3 * far, far))
        down = exact.numerator // exact.denominator
        self.assertNotEqual(exact.denominator, 1)
        self.assertEqual(from_piece((far, far + 1), (0, 0), (3 * far, far)), (down, down + 1))


class Boxes(unittest.TestCase):
    def test_apart_touching_overlapping_and_within(self):
        box = ((0, 4), (0, 4))
        for other, squares in ((((7, 9), (8, 9)), 25), (((4, 9), (4, 9)), 0), (((4, 9), (5, 9)), 1),
                               (((2, 9), (3, 9)), 0), (((1, 2), (1, 2)), 0), (((-9, 9), (-9, 9)), 0),
                               (((-5, -2), (0, 1)), 4), (((0, 4), (0, 4)), 0)):
            self.assertEqual(between(box, other), squares, other)
            self.assertEqual(between(other, box), squares, other)

    def test_greatest_from(self):
        box = ((0, 4), (0, 4))
        for other, squares in ((((7, 9), (8, 9)), 113), (((4, 9), (4, 9)), 32), (((2, 9), (3, 9)), 13),
                               (((1, 2), (1, 2)), 8), (((-9, 9), (-9, 9)), 0), (((0, 4), (0, 4)), 0),
                               (((1, 4), (0, 9)), 1), (((-5, -2), (0, 1)), 45)):
            self.assertEqual(greatest_from(box, other), squares, other)
        self.assertEqual(greatest_from(((1, 2), (1, 2)), box), 0)

    def test_they_are_those_of_the_whole_places(self):
        chance = dice(13)
        for _ in range(200):
            dims = chance.choice((2, 3))
            box, other = a_box(chance, dims, -4, 4, 4), a_box(chance, dims, -4, 4, 4)
            squares = [squared_from_box(place, other) for place in places_of(box)]
            self.assertEqual((between(box, other), greatest_from(box, other)), (min(squares), max(squares)))


class Examples(unittest.TestCase):
    def test_all_examples_of_the_document(self):
        box = ((3, 4), (4, 5), (10, 20))
        for kind, told in (
                (("range", (0, 0)), (5, 7)),
                (("clocked", (0, 0)), (15, 27)),
                (("differ", (0, 0), (7, 5)), (0, 4)),
                (("side", (2, -3)), (-9, -4)),
                (("piece", (0, 0), (8, 0)), (2, 6)),
                (("boxes", (((0, 2), (0, 2)), ((10, 12), (4, 5)))), (2, 4))):
            self.assertEqual(span(kind, box), told, kind)
        self.assertEqual(span(("piece", (0, 0), (3, 1)), ((2, 2), (2, 2), (0, 0))), (1, 2))


class Spans(unittest.TestCase):
    PLACE = ((1, 1), (1, 1), (-5, 7))

    def test_only_clocked_minds_the_clock(self):
        box, other = ((0, 3), (0, 3), (-5, 7)), ((0, 3), (0, 3), (20, 20))
        chance = dice(14)
        for _ in range(100):
            kind = any_kind(chance, 2)
            self.assertEqual(span(kind, box) == span(kind, other), kind[0] != "clocked", kind)
        self.assertEqual(span(("clocked", (0, 0)), self.PLACE), (1 - 5, 2 + 7))
        self.assertEqual(span(("range", (0, 0)), self.PLACE), (1, 2))

    def test_least_numbers_below_0_are_not_raised(self):
        self.assertEqual(span(("differ", (1, 1), (7, 1)), self.PLACE), (-6, -6))
        self.assertEqual(span(("differ", (1, 1), (0, 0)), self.PLACE), (-2, -1))
        self.assertEqual(span(("side", (-2, 0)), self.PLACE), (-2, -2))
        self.assertEqual(span(("piece", (0, 0), (8, 0)), ((0, 6), (0, 8), (0, 0))), (4 - 5, 4 + 5))
        self.assertEqual(span(("clocked", (1, 1)), self.PLACE), (-5, 7))

    def test_a_piece_that_is_a_point_is_this_point(self):
        self.assertEqual(span(("piece", (4, 5), (4, 5)), self.PLACE), (5, 5))
        self.assertEqual(span(("piece", (2, 2), (2, 2)), self.PLACE), (1, 2))

    def test_the_root_of_a_piece_is_rounded_from_the_fraction(self):
        # The squared distances are 81 / 10, a little below 9, and 9 / 2, a little above 4.
        self.assertEqual(span(("piece", (0, 0), (9, 3)), ((3, 3), (4, 4), (0, 0))), (2, 3))
        self.assertEqual(span(("piece", (0, 0), (4, 4)), ((3, 3), (0, 0), (0, 0))), (2, 3))
        # 1 / 5 and 49 / 50, both below 1.
        self.assertEqual(span(("piece", (0, 0), (2, 4)), ((1, 1), (1, 1), (0, 0))), (0, 1))
        self.assertEqual(span(("piece", (0, 0), (7, 1)), ((7, 7), (0, 0), (0, 0))), (0, 1))

    def test_the_nearest_box_counts_for_each_number(self):
        kind = ("boxes", (((0, 0), (0, 0)), ((10, 10), (0, 0))))
        self.assertEqual(span(kind, ((2, 9), (0, 0), (0, 0))), (1, 8))
        self.assertEqual(span(kind, ((0, 0), (0, 0), (0, 0))), (0, 0))
        self.assertEqual(span(kind, ((-1, 12), (3, 4), (0, 0))), (3, 12))

    def test_no_value_in_the_box_is_beyond_the_span(self):
        chance = dice(15)
        for _ in range(400):
            dims = chance.choice((2, 3))
            kind, box = any_kind(chance, dims), a_box(chance, dims + 1, longest=3)
            least, greatest = span(kind, box)
            for _ in range(12):
                place = [low + (high - low) * Fraction(chance.randint(0, 4), 4) for low, high in box]
                self.assertTrue(value_within(kind, place[:-1], place[-1], least, greatest), (kind, box, place))

    def test_range_and_side_and_boxes_are_no_wider_than_told(self):
        chance = dice(16)
        for _ in range(300):
            kind, box = any_kind(chance, 2), a_box(chance, 3, longest=3)
            least, greatest = span(kind, box)
            places = places_of(box[:-1])
            if kind[0] == "side":
                values = [dot(kind[1], place) for place in places]
                self.assertEqual((least, greatest), (min(values), max(values)))
            if kind[0] == "range":
                values = [squared(kind[1], place) for place in places]
                self.assertEqual((least, greatest), (root_down(min(values)), root_up(max(values))))
            if kind[0] == "boxes":
                one = min(squared_from_box(place, other) for other in kind[1] for place in places)
                two = min(max(squared_from_box(place, other) for place in places) for other in kind[1])
                self.assertEqual((least, greatest), (root_down(one), root_up(two)))
            if kind[0] == "piece":
                exact, around = squared_from_piece(middle(box)[:-1], kind[1], kind[2]), radius(box)
                self.assertTrue(root_at_most(exact, greatest - around))
                self.assertFalse(root_at_most(exact, greatest - around - 1))
                self.assertFalse(exact < (least + around) ** 2)
                self.assertTrue(exact < (least + around + 1) ** 2)
            if kind[0] == "differ":
                (one, two), (three, four) = distances(kind[1], box[:-1]), distances(kind[2], box[:-1])
                self.assertEqual((least, greatest), (one - four, two - three))

    def test_a_box_inside_another_one_has_a_span_within(self):
        chance = dice(17)
        for _ in range(600):
            dims = chance.choice((2, 3))
            kind, box = any_kind(chance, dims), a_box(chance, dims + 1)
            part = []
            for low, high in box:
                begin = chance.randint(low, high)
                part.append((begin, begin if kind[0] == "piece" else chance.randint(begin, high)))
            part = tuple(part)
            self.assertTrue(inside(part, box))
            (least, greatest), (low, high) = span(kind, box), span(kind, part)
            self.assertTrue(least <= low <= high <= greatest, (kind, box, part))

    def test_very_large_numbers(self):
        far = 10 ** 25
        box = ((3 * far, 3 * far), (4 * far, 4 * far), (-far, far))
        self.assertEqual(span(("range", (0, 0)), box), (5 * far, 5 * far))
        self.assertEqual(span(("clocked", (0, 0)), box), (4 * far, 6 * far))
        self.assertEqual(span(("side", (1000, -1000)), box), (-1000 * far, -1000 * far))


if __name__ == "__main__":
    unittest.main()
