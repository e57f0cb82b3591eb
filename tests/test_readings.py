"""Readings, what fits a setting, what says at least as much (points [1] and [10])."""

import copy
import unittest

from sureplace.errors import InvalidReading
from sureplace.given.readings import Reading, reading_fits, says_as_much
from tests.helpers import FAR, KINDS, LIMIT, a_reading, a_setting, raised

BOX = ((0, 1), (2, 3))


def made(**changes):
    return raised(a_reading, **changes)


class Made(unittest.TestCase):
    def test_the_fields(self):
        reading = Reading("b", 7, ("side", (1, 2)), low=-3, high=4, late=5, near=6)
        fields = (reading.source, reading.moment, reading.kind, reading.low, reading.high, reading.late, reading.near)
        self.assertEqual(fields, ("b", 7, ("side", (1, 2)), -3, 4, 5, 6))

    def test_late_and_near_are_0_if_not_told(self):
        reading = Reading("b", 7, ("range", (1, 2)), low=3, high=3)
        self.assertEqual((reading.late, reading.near), (0, 0))

    def test_the_bounds_are_given_by_name(self):
        self.assertIs(raised(Reading, "b", 7, ("range", (1, 2)), 3, 3), TypeError)

    def test_all_six_kinds(self):
        for kind in KINDS:
            self.assertEqual(a_reading(kind=kind).kind, kind)

    def test_a_kind_that_there_is_not(self):
        for kind in (("ranges", (1, 2)), ("", (1, 2)), ("Range", (1, 2)), ("cut",), ("box", (BOX,)), ("range ", (1, 2))):
            self.assertIs(made(kind=kind), InvalidReading, kind)

    def test_the_source_is_a_name(self):
        for source, good in (("", 0), ("a", 1), ("a" * 64, 1), ("a" * 65, 0), ("A", 0), ("a b", 0), ("_-9", 1)):
            self.assertIs(made(source=source), None if good else InvalidReading, source)

    def test_the_bounds_of_the_moment(self):
        for moment, good in ((-LIMIT - 1, 0), (-LIMIT, 1), (0, 1), (LIMIT, 1), (LIMIT + 1, 0)):
            self.assertIs(made(moment=moment), None if good else InvalidReading, moment)

    def test_low_and_high(self):
        for low, high, good in ((3, 3, 1), (4, 3, 0), (-FAR, FAR, 1), (-FAR - 1, 0, 0), (0, FAR + 1, 0),
                                (FAR, FAR, 1), (FAR + 1, FAR + 1, 0), (-FAR, -FAR, 1), (-FAR - 1, -FAR - 1, 0),
                                (LIMIT + 1, LIMIT + 2, 1)):
            self.assertIs(made(low=low, high=high), None if good else InvalidReading, (low, high))

    def test_late_and_near(self):
        for number, good in ((-1, 0), (0, 1), (LIMIT, 1), (LIMIT + 1, 0)):
            self.assertIs(made(late=number), None if good else InvalidReading, number)
            self.assertIs(made(near=number), None if good else InvalidReading, number)


class Kinds(unittest.TestCase):
    def test_each_number_of_each_point(self):
        for number, good in ((-LIMIT - 1, 0), (-LIMIT, 1), (LIMIT, 1), (LIMIT + 1, 0)):
            due = None if good else InvalidReading
            for point in ((number, 0), (0, number), (0, 0, number)):
                for word in ("range", "clocked"):
                    self.assertIs(made(kind=(word, point)), due, (word, point))
                for word in ("differ", "piece"):
                    self.assertIs(made(kind=(word, point, (0, 0))), due, (word, point))
                    self.assertIs(made(kind=(word, (0, 0), point)), due, (word, point))

    def test_the_numbers_of_a_direction(self):
        for number, good in ((-1001, 0), (-1000, 1), (-1, 1), (1, 1), (1000, 1), (1001, 0)):
            for direction in ((number, 0), (0, number), (1, 1, number), (number, 5)):
                self.assertIs(made(kind=("side", direction)), None if good else InvalidReading, direction)

    def test_a_direction_of_noughts(self):
        self.assertIs(made(kind=("side", (0, 0))), InvalidReading)
        self.assertIs(made(kind=("side", (0, 0, 0))), InvalidReading)
        self.assertIs(made(kind=("side", (-1, 1))), None)

    def test_the_number_of_boxes(self):
        for many, good in ((0, 0), (1, 1), (2, 1), (15, 1), (16, 1), (17, 0)):
            self.assertIs(made(kind=("boxes", (BOX,) * many)), None if good else InvalidReading, many)

    def test_the_numbers_of_each_box(self):
        for low, high, good in ((-LIMIT, LIMIT, 1), (-LIMIT - 1, 0, 0), (0, LIMIT + 1, 0), (5, 5, 1), (6, 5, 0),
                                (-LIMIT, -LIMIT, 1), (-LIMIT - 1, -LIMIT - 1, 0), (LIMIT + 1, LIMIT + 1, 0)):
            due = None if good else InvalidReading
            for box in (((low, high), (0, 0)), ((0, 0), (low, high))):
                for boxes in ((box,), (BOX, box), (box, BOX)):
                    self.assertIs(made(kind=("boxes", boxes)), due, boxes)

    def test_points_may_be_equal(self):
        for word in ("differ", "piece"):
            self.assertIs(made(kind=(word, (1, 1), (1, 1))), None)


class Equality(unittest.TestCase):
    def test_all_fields_count(self):
        told = {"source": "a", "moment": 1, "kind": KINDS[0], "low": 2, "high": 9, "late": 3, "near": 4}
        others = {"source": "b", "moment": 2, "kind": KINDS[1], "low": 3, "high": 8, "late": 2, "near": 5}
        reading = a_reading(**told)
        self.assertEqual(reading, a_reading(**told))
        for field, other in others.items():
            self.assertNotEqual(reading, a_reading(**{**told, field: other}), field)

    def test_no_other_value_is_equal(self):
        reading = a_reading()
        for other in ("a", 0, None, reading.kind, a_setting()):
            self.assertIs(reading == other, False)
            self.assertIs(reading != other, True)


class Fits(unittest.TestCase):
    def test_two_directions(self):
        for kind in KINDS:
            self.assertIs(reading_fits(a_setting(2), a_reading(kind=kind)), True, kind)
            self.assertIs(reading_fits(a_setting(3), a_reading(kind=kind)), False, kind)

    def test_three_directions(self):
        place, box = (1, 2, 3), ((0, 1), (2, 3), (4, 5))
        for kind in (("range", place), ("clocked", place), ("differ", place, place), ("side", place),
                     ("piece", place, place), ("boxes", (box, box))):
            self.assertIs(reading_fits(a_setting(3), a_reading(kind=kind)), True, kind)
            self.assertIs(reading_fits(a_setting(2), a_reading(kind=kind)), False, kind)

    def test_each_part_counts(self):
        box = ((0, 1), (2, 3), (4, 5))
        for kind in (("differ", (1, 2), (1, 2, 3)), ("differ", (1, 2, 3), (1, 2)), ("piece", (1, 2), (1, 2, 3)),
                     ("piece", (1, 2, 3), (1, 2)), ("boxes", (BOX, box)), ("boxes", (box, BOX))):
            for dims in (2, 3):
                self.assertIs(reading_fits(a_setting(dims), a_reading(kind=kind)), False, kind)

    def test_the_number_of_boxes_does_not_count(self):
        for many in (1, 3, 16):
            self.assertIs(reading_fits(a_setting(2), a_reading(kind=("boxes", (BOX,) * many))), True)


class SaysAsMuch(unittest.TestCase):
    BASE = {"source": "a", "moment": 1, "kind": KINDS[0], "low": 2, "high": 9, "late": 3, "near": 4}

    def said(self, **changes):
        return says_as_much(a_reading(**{**self.BASE, **changes}), a_reading(**self.BASE))

    def test_the_same(self):
        self.assertIs(self.said(), True)

    def test_more(self):
        for changes in ({"low": 3}, {"high": 8}, {"late": 2}, {"near": 3}, {"low": 9}, {"high": 2},
                        {"low": 5, "high": 5, "late": 0, "near": 0}):
            self.assertIs(self.said(**changes), True, changes)

    def test_less(self):
        for changes in ({"low": 1}, {"high": 10}, {"late": 4}, {"near": 5}, {"low": 1, "high": 5}):
            self.assertIs(self.said(**changes), False, changes)

    def test_something_else(self):
        for changes in ({"source": "b"}, {"moment": 0}, {"moment": 2}, {"kind": KINDS[1]},
                        {"kind": ("range", (1, 3))}):
            self.assertIs(self.said(**changes), False, changes)

    def test_what_is_given_stays_as_it_is(self):
        kind = ("boxes", (BOX, BOX))
        one, two = a_reading(kind=kind), a_reading(kind=kind, late=1)
        before = copy.deepcopy([one, two])
        says_as_much(one, two), reading_fits(a_setting(), one)
        self.assertEqual([one, two], before)


if __name__ == "__main__":
    unittest.main()
