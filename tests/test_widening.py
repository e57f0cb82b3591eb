"""By how much witnesses may be beyond bounds (points [49], [50] and [53])."""

import copy
import unittest

from sureplace.kinds.exclusion import clock_rate, moved, rate
from sureplace.kinds.spans import span
from sureplace.motion.going import reach, slip
from sureplace.witness.widening import cell_radius, margin, stretch
from tests.helpers import KINDS, a_question, a_reading, a_setting, any_kind, dice


class CellRadius(unittest.TestCase):
    def test_two_and_three_directions(self):
        for share, two, three in ((1, 2, 2), (2, 2, 2), (3, 3, 4), (4, 3, 4), (5, 5, 6), (6, 5, 6), (10, 8, 9),
                                  (11, 9, 11), (10 ** 12, 707106781187, 866025403785)):
            self.assertEqual(cell_radius(a_setting(2), share), two, share)
            self.assertEqual(cell_radius(a_setting(3), share), three, share)

    def test_it_is_the_least_number_that_is_not_less_than_the_root(self):
        for share in range(1, 60):
            half = (share + 1) // 2
            for dims in (2, 3):
                found = cell_radius(a_setting(dims), share)
                self.assertGreaterEqual(found ** 2, dims * half ** 2)
                self.assertLess((found - 1) ** 2, dims * half ** 2)


class Stretch(unittest.TestCase):
    def test_different_moments_are_counted(self):
        # The cell radius is 3.
        question = a_question(5, share=4, earliest=0, latest=9)
        for moments, many in (((), 1), ((5,), 1), ((5, 5), 1), ((4,), 2), ((4, 4, 5), 2), ((0, 9), 3),
                              ((0, 1, 2, 3, 2, 1, 0), 5), ((-1,), 1), ((10,), 1), ((-1, 0, 9, 10), 3)):
            readings = [(number, a_reading(moment=moment)) for number, moment in enumerate(moments)]
            self.assertEqual(stretch(a_setting(), question, readings), 6 * many, moments)

    def test_the_moment_of_the_question_may_be_out_of_its_span(self):
        question = a_question(50, share=4, earliest=0, latest=9)
        self.assertEqual(stretch(a_setting(), question, []), 6)
        self.assertEqual(stretch(a_setting(), question, [(1, a_reading(moment=50))]), 6)
        self.assertEqual(stretch(a_setting(), question, [(1, a_reading(moment=3))]), 12)

    def test_directions_count(self):
        self.assertEqual(stretch(a_setting(3), a_question(share=4), []), 8)

    def test_what_is_given_stays_as_it_is(self):
        readings = [(1, a_reading(moment=3)), (2, a_reading(moment=1))]
        before = copy.deepcopy(readings)
        stretch(a_setting(), a_question(), readings)
        self.assertEqual(readings, before)


class Margin(unittest.TestCase):
    def test_each_kind(self):
        # The reach of 3 ticks is 5, the slip is 2, and the radius is 3.
        setting, question = a_setting(speed=3, drift=1, per=2), a_question(7, share=4)
        for kind, told in (("range", 10 + 5 + 8), ("clocked", 10 + 5 + 2 + 8 + 4), ("differ", 20 + 10 + 16),
                           ("side", 3 * 5 + 3 * 8), ("piece", 10 + 5 + 8), ("boxes", 10 + 5 + 8)):
            kind = [other for other in KINDS if other[0] == kind][0]
            for moment in (-5, 7):
                reading = a_reading(moment=moment, kind=kind, late=3, near=10)
                self.assertEqual(margin(setting, question, reading), told, kind)

    def test_neither_late_nor_near(self):
        setting, question = a_setting(speed=3, drift=1, per=2), a_question(0, share=4)
        for kind in KINDS:
            self.assertEqual(margin(setting, question, a_reading(kind=kind)), 8 * rate(kind) + 4 * clock_rate(kind))

    def test_any_readings(self):
        chance = dice(92)
        for _ in range(300):
            setting = a_setting(chance.choice((2, 3)), speed=chance.randint(0, 9), drift=chance.randint(0, 9),
                                per=chance.randint(1, 5))
            question = a_question(chance.randint(-9, 9), share=chance.randint(1, 30))
            kind = any_kind(chance, setting.dims)
            reading = a_reading(moment=chance.randint(-9, 9), kind=kind, late=chance.randint(0, 9),
                                near=chance.randint(0, 9))
            due = (moved(kind) * reading.near + rate(kind) * reach(setting, reading.late)
                   + clock_rate(kind) * slip(setting, reading.late)
                   + rate(kind) * (2 * cell_radius(setting, question.share) + 2) + clock_rate(kind) * question.share)
            self.assertEqual(margin(setting, question, reading), due)


class Spans(unittest.TestCase):
    def test_a_span_over_a_small_box_is_not_wide(self):
        chance = dice(93)
        for _ in range(2000):
            setting, share = a_setting(chance.choice((2, 3))), chance.randint(1, 12)
            kind, box = any_kind(chance, setting.dims), []
            for _ in range(setting.dims + 1):
                low = chance.randint(-12, 12)
                box.append((low, low + chance.choice((share, chance.randint(0, share)))))
            least, greatest = span(kind, tuple(box))
            self.assertLessEqual(greatest - least,
                                 rate(kind) * (2 * cell_radius(setting, share) + 2) + clock_rate(kind) * share)


if __name__ == "__main__":
    unittest.main()
