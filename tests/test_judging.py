"""The judge of witnesses (points [51] and [52])."""

import copy
import unittest
from fractions import Fraction

from sureplace.kinds.spans import span
from sureplace.numbers.boxes import inside
from sureplace.witness.judging import judge_witness
from sureplace.witness.ways import Witness, ascend, way_at
from sureplace.witness.widening import margin, stretch
from tests.helpers import a_question, a_reading, a_setting, dice
from tests.worlds import SOURCES, a_case

SETTING = a_setting(speed=3, drift=1, per=2)
ROOT = ((-100, 100), (-100, 100), (-50, 50))


def a_witness(*points, liars=()):
    return Witness(liars, tuple(points))


class Judging(unittest.TestCase):
    def accepted(self, witness, *, box=ROOT, readings=(), setting=SETTING, **more):
        question = a_question(root=ROOT, **more)
        told = judge_witness(setting, question, list(readings), witness, box)
        self.assertIs(type(told), bool)
        return told

    def test_at_most_as_many_liars(self):
        for liars in range(4):
            for many in range(6):
                names = SOURCES[:many] if many < 6 else ()
                self.assertIs(self.accepted(a_witness((0, 0, 0, 0), liars=names), liars=liars), many <= liars)

    def test_a_name_that_stands_twice_counts_twice(self):
        for names, told in ((("a",), True), (("a", "a"), False), (("a", "b"), False)):
            self.assertIs(self.accepted(a_witness((0, 0, 0, 0), liars=names), liars=1), told)
        self.assertIs(self.accepted(a_witness((0, 0, 0, 0), liars=("a", "a")), liars=2), True)

    def test_at_least_one_point_and_points_ascend(self):
        self.assertIs(self.accepted(a_witness()), False)
        self.assertIs(self.accepted(a_witness((7, 0, 0, 0))), True)
        for moments, told in (((0, 1), True), ((1, 0), False), ((1, 1), False), ((0, 1, 1), False), ((-9, 0, 9), True)):
            self.assertIs(self.accepted(a_witness(*[(moment, 0, 0, 0) for moment in moments])), told, moments)

    def test_places_that_are_too_far_apart(self):
        # The cell radius is 2 and the stretch is 4 for one moment: 2 * distance <= 3 * ticks + 8.
        for ticks, far in ((1, 5), (2, 7), (4, 10), (7, 14)):
            for distance in range(far - 2, far + 3):
                witness = a_witness((0, 0, 0, 0), (ticks, 0, distance, 0))
                self.assertIs(self.accepted(witness), distance <= far, (ticks, distance))
        # 10 is the distance of (6, 8) for 4 ticks.
        self.assertIs(self.accepted(a_witness((0, 1, 1, 0), (4, 7, 9, 0))), True)
        self.assertIs(self.accepted(a_witness((0, 1, 1, 0), (4, 7, 10, 0))), False)
        self.assertIs(self.accepted(a_witness((0, 1, 1, 0), (4, -5, -7, 0))), True)
        self.assertIs(self.accepted(a_witness((0, 1, 1, 0), (4, -6, -7, 0))), False)

    def test_offsets_that_are_too_far_apart(self):
        # 2 * difference <= ticks + 8.
        for ticks, far in ((1, 4), (2, 5), (3, 5), (4, 6)):
            for by in (-1, 1):
                for difference in range(far - 2, far + 3):
                    witness = a_witness((0, 0, 0, 0), (ticks, 0, 0, by * difference))
                    self.assertIs(self.accepted(witness), difference <= far, (ticks, difference))

    def test_the_stretch_counts_moments_of_readings(self):
        readings = [(1, a_reading("a", 3, low=0, high=99)), (2, a_reading("b", 3, low=0, high=99)),
                    (3, a_reading("c", 4, low=0, high=99)), (4, a_reading("d", 99, low=0, high=99))]
        for many, far in ((0, 5), (1, 9), (2, 9), (3, 13), (4, 13)):
            for distance in (far, far + 1):
                told = self.accepted(a_witness((0, 0, 0, 0), (1, 0, distance, 0)), readings=readings[:many])
                self.assertIs(told, distance == far)

    def test_each_point_and_each_later_one(self):
        # From each one to the next one goes, and not from the first one to the last one; also with others between.
        self.assertIs(self.accepted(a_witness((0, 0, 0, 0), (1, 5, 0, 0))), True)
        self.assertIs(self.accepted(a_witness((0, 5, 0, 0), (1, 10, 0, 0))), True)
        self.assertIs(self.accepted(a_witness((0, 0, 0, 0), (1, 5, 0, 0), (2, 10, 0, 0))), False)
        self.assertIs(self.accepted(a_witness((0, 0, 0, 0), (1, 5, 0, 0), (2, 7, 0, 0))), True)
        still = a_setting(speed=0, drift=0, per=1)
        points = [(0, 0, 0, 0), (1, 2, 0, 1), (2, 1, 0, 2), (3, 4, 0, 3), (4, 3, 0, 4)]
        self.assertIs(self.accepted(a_witness(*points), setting=still), True)
        for at in (2, 4):
            for wrong in ((at, 5, 0, 2), (at, 3, 3, 3), (at, 3, 0, 5)):
                others = [wrong if point[0] == at else point for point in points]
                self.assertIs(self.accepted(a_witness(*others), setting=still), False, wrong)

    def test_the_way_is_in_the_box_and_in_the_root_at_the_moment(self):
        witness = a_witness((0, 0, 0, 0), (4, 8, 1, 0))
        for moment, here in ((0, ((0, 0), (0, 0), (0, 0))), (1, ((2, 2), (0, 1), (0, 0))), (9, ((8, 8), (1, 1), (0, 0)))):
            for axis in range(3):
                for low, high, told in ((0, 0, True), (-1, 1, True), (1, 5, False), (-5, -1, False)):
                    box = list((least - 1, most + 1) for least, most in here)
                    box[axis] = (here[axis][0] + low, here[axis][1] + high)
                    question = a_question(moment, ROOT)
                    self.assertIs(judge_witness(SETTING, question, [], witness, tuple(box)), told, box)
                    question = a_question(moment, tuple(box))
                    self.assertIs(judge_witness(SETTING, question, [], witness, ROOT), told, box)

    def test_each_reading_within_its_margin(self):
        # At moment 2 the place is (4, 0). The margin of a range is 2 * 2 + 2.
        witness = a_witness((0, 0, 0, 0), (4, 8, 0, 0))
        for low, high, told in ((10, 12, True), (11, 12, False), (-5, -2, True), (-5, -3, False), (4, 4, True)):
            reading = a_reading("a", 2, ("range", (0, 0)), low=low, high=high)
            self.assertIs(self.accepted(witness, readings=[(1, reading)]), told, (low, high))
            others = [(0, a_reading("b", 2, low=4, high=4)), (1, reading), (2, a_reading("b", 2, low=4, high=4))]
            self.assertIs(self.accepted(witness, readings=others), told, (low, high))

    def test_both_ends_of_the_span_count(self):
        # The way is in ((1, 2), (0, 1)) at moment 1: its distances from (0, 0) are from 1 to 3.
        witness = a_witness((0, 0, 0, 0), (3, 4, 1, 0))
        for low, high, told in ((7, 99, True), (8, 99, False), (-99, -3, True), (-99, -4, False)):
            reading = a_reading("a", 1, ("range", (0, 0)), low=low, high=high)
            self.assertIs(self.accepted(witness, readings=[(1, reading)]), told, (low, high))

    def test_late_and_near_are_in_the_margin(self):
        # Late by 3 ticks is a reach of 5.
        for low, told in ((15, True), (16, False)):
            reading = a_reading("a", 0, ("range", (0, 0)), low=low, high=99, late=3, near=4)
            self.assertIs(self.accepted(a_witness((0, 0, 0, 0)), readings=[(1, reading)]), told)

    def test_readings_of_liars_do_not_count(self):
        witness = a_witness((0, 0, 0, 0), liars=("b", "c"))
        for source, told in (("a", False), ("b", True), ("c", True), ("d", False)):
            readings = [(1, a_reading(source, 0, low=50, high=60))]
            self.assertIs(self.accepted(witness, readings=readings, liars=2), told)

    def test_readings_that_the_question_does_not_ask_of(self):
        for moment, told in ((-11, True), (-10, False), (10, False), (11, True)):
            readings = [(1, a_reading("a", moment, low=50, high=60))]
            self.assertIs(self.accepted(a_witness((0, 0, 0, 0)), readings=readings), told, moment)

    def test_what_is_given_stays_as_it_is(self):
        readings = [(1, a_reading("a", 2, low=0, high=9)), (2, a_reading("b", 5, low=0, high=9))]
        given = [readings, a_witness((0, 0, 0, 0), (4, 8, 0, 0))]
        before = copy.deepcopy(given)
        judge_witness(SETTING, a_question(root=ROOT), given[0], given[1], ROOT)
        self.assertEqual(given, before)


def can_go(setting, slack, one, two):
    """Condition 3 for two points with any, also broken, numbers."""
    ticks = abs(two[0] - one[0])
    squares = sum((a - b) ** 2 for a, b in zip(one[1:-1], two[1:-1]))
    return (setting.per ** 2 * squares <= (setting.speed * ticks + setting.per * slack) ** 2
            and setting.per * abs(one[-1] - two[-1]) <= setting.drift * ticks + setting.per * slack)


def by_hand(setting, question, readings, witness, box):
    """Is the witness accepted? Directly as point [51] says it."""
    asks = [(n, r) for n, r in readings if question.earliest <= r.moment <= question.latest]
    points = witness.points
    if len(witness.liars) > question.liars or not points or not ascend(points):
        return False
    slack = stretch(setting, question, readings)
    if not all(can_go(setting, slack, one, two) for at, two in enumerate(points) for one in points[:at]):
        return False
    here = way_at(points, question.moment)
    if not (inside(here, box) and inside(here, question.root)):
        return False
    for _, reading in asks:
        least, greatest = span(reading.kind, way_at(points, reading.moment))
        more = margin(setting, question, reading)
        if reading.source not in witness.liars and not reading.low - more <= least <= greatest <= reading.high + more:
            return False
    return True


class AnyWitnesses(unittest.TestCase):
    def some(self, seed, many):
        """Cases with witnesses near the true place."""
        chance = dice(seed)
        for _ in range(many):
            setting, question, readings, here = a_case(chance, share=chance.randint(1, 9), many=4)
            points = []
            for moment in sorted(chance.sample(range(9), chance.randint(1, 4))):
                points.append((moment,) + tuple(number + chance.randint(-3, 3) for number in here))
            liars = tuple(chance.sample(SOURCES, chance.randint(0, 2)))
            yield chance, setting, question, readings, Witness(liars, tuple(points))

    def test_they_are_judged_the_same_as_by_hand(self):
        right, wrong = 0, 0
        for chance, setting, question, readings, witness in self.some(95, 1500):
            box = tuple((low - chance.randint(0, 9), high) for low, high in question.root)
            due = by_hand(setting, question, readings, witness, box)
            self.assertIs(judge_witness(setting, question, readings, witness, box), due)
            right, wrong = right + due, wrong + (not due)
        self.assertGreater(min(right, wrong), 100)

    def test_any_points(self):
        """Points to and fro, whose steps may be farther than one can go, each or all together."""
        counts = {}
        chance = dice(97)
        for _ in range(6000):
            dims = chance.choice((2, 3))
            setting = a_setting(dims, speed=chance.randint(0, 4), drift=chance.randint(0, 3), per=chance.randint(1, 3))
            question = a_question(0, ((-99, 99),) * (dims + 1), share=chance.randint(1, 4))
            moments = sorted(chance.sample(range(-12, 12), chance.randint(2, 6)))
            points, place = [], (0,) * (dims + 1)
            by = chance.randint(1, 9)
            for moment in moments:
                points.append((moment,) + place)
                place = tuple(number + chance.randint(-by, by) for number in place)
            due = by_hand(setting, question, [], Witness((), tuple(points)), question.root)
            self.assertIs(judge_witness(setting, question, [], Witness((), tuple(points)), question.root), due)
            steps = list(zip(points, points[1:]))
            together = self.excess(setting, steps) <= setting.per * stretch(setting, question, [])
            counts[due, together] = counts.get((due, together), 0) + 1
        self.assertEqual(set(counts), {(True, True), (True, False), (False, False)})
        self.assertGreater(min(counts.values()), 500, counts)

    def excess(self, setting, steps):
        """By how much the steps are, all together, farther than one can go, in units of 1 / per."""
        far = sum(max(0, setting.per * sum((a - b) ** 2 for a, b in zip(one[1:-1], two[1:-1])) ** 0.5
                      - setting.speed * (two[0] - one[0])) for one, two in steps)
        off = sum(max(0, setting.per * abs(one[-1] - two[-1]) - setting.drift * (two[0] - one[0]))
                  for one, two in steps)
        return max(far, off)

    def test_the_way_keeps_condition_3_between_any_two_times(self):
        accepted = 0
        for chance, setting, question, readings, witness in self.some(96, 500):
            if not judge_witness(setting, question, readings, witness, question.root):
                continue
            accepted += 1
            slack = stretch(setting, question, readings)
            seen = []
            for _ in range(12):
                time = Fraction(chance.randint(-8, 72), 8)
                seen.append((time,) + self.on_the_way(witness.points, time))
            self.assertTrue(all(can_go(setting, slack, one, two) for one in seen for two in seen))
        self.assertGreater(accepted, 50)

    def on_the_way(self, points, time):
        """Where the way is at a time, exactly."""
        if time <= points[0][0] or time >= points[-1][0]:
            return (points[0] if time <= points[0][0] else points[-1])[1:]
        one = [point for point in points if point[0] <= time][-1]
        two = [point for point in points if point[0] > time][0]
        part = (time - one[0]) / (two[0] - one[0])
        return tuple(a + part * (b - a) for a, b in zip(one[1:], two[1:]))


if __name__ == "__main__":
    unittest.main()
