"""Questions and the readings that they ask of (points [11] and [12])."""

import copy
import unittest

from sureplace.errors import InvalidQuestion
from sureplace.given.questions import Question, asked, question_fits
from tests.helpers import LIMIT, a_question, a_reading, a_setting, raised

ROOT = ((0, 8), (-1, 8), (0, 0))


def made(**changes):
    return raised(a_question, **changes)


class Made(unittest.TestCase):
    def test_the_fields(self):
        question = Question(1, ROOT, liars=2, share=3, earliest=4, latest=5)
        fields = (question.moment, question.root, question.liars, question.share, question.earliest, question.latest)
        self.assertEqual(fields, (1, ROOT, 2, 3, 4, 5))

    def test_the_numbers_are_given_by_name(self):
        self.assertIs(raised(Question, 1, ROOT, 2, 3, 4, 5), TypeError)

    def test_the_bounds_of_the_moments(self):
        for moment, good in ((-LIMIT - 1, 0), (-LIMIT, 1), (LIMIT, 1), (LIMIT + 1, 0)):
            due = None if good else InvalidQuestion
            self.assertIs(made(moment=moment), due, moment)
            self.assertIs(made(earliest=moment, latest=moment), due, moment)
        self.assertIs(made(earliest=-LIMIT, latest=LIMIT), None)
        self.assertIs(made(earliest=-LIMIT - 1, latest=LIMIT), InvalidQuestion)
        self.assertIs(made(earliest=-LIMIT, latest=LIMIT + 1), InvalidQuestion)

    def test_earliest_and_latest(self):
        self.assertIs(made(earliest=4, latest=4), None)
        self.assertIs(made(earliest=4, latest=5), None)
        self.assertIs(made(earliest=5, latest=4), InvalidQuestion)

    def test_the_moment_may_lie_outside(self):
        self.assertIs(made(moment=3, earliest=4, latest=5), None)
        self.assertIs(made(moment=6, earliest=4, latest=5), None)

    def test_the_root(self):
        for low, high, good in ((-LIMIT, LIMIT, 1), (-LIMIT - 1, 0, 0), (0, LIMIT + 1, 0), (5, 5, 1), (6, 5, 0),
                                (-LIMIT - 1, -LIMIT - 1, 0), (LIMIT + 1, LIMIT + 1, 0)):
            for axis in range(3):
                root = ROOT[:axis] + ((low, high),) + ROOT[axis + 1:]
                self.assertIs(made(root=root), None if good else InvalidQuestion, root)

    def test_the_liars(self):
        for liars, good in ((-1, 0), (0, 1), (1, 1), (2, 1), (3, 1), (4, 0)):
            self.assertIs(made(liars=liars), None if good else InvalidQuestion, liars)

    def test_the_share(self):
        for share, good in ((-1, 0), (0, 0), (1, 1), (LIMIT, 1), (LIMIT + 1, 0)):
            self.assertIs(made(share=share), None if good else InvalidQuestion, share)


class Equality(unittest.TestCase):
    def test_all_fields_count(self):
        told = {"moment": 1, "root": ROOT, "liars": 2, "share": 3, "earliest": 4, "latest": 5}
        question = a_question(**told)
        self.assertEqual(question, a_question(**told))
        for field, other in (("moment", 2), ("root", ROOT[1:]), ("liars", 1), ("share", 4), ("earliest", 3),
                             ("latest", 6)):
            self.assertNotEqual(question, a_question(**{**told, field: other}), field)

    def test_no_other_value_is_equal(self):
        question = a_question()
        for other in (0, "a", None, question.root, a_setting(), a_reading()):
            self.assertIs(question == other, False)
            self.assertIs(question != other, True)


class Fits(unittest.TestCase):
    def test_one_side_more_than_directions(self):
        for dims in (2, 3):
            for sides in range(1, 6):
                question = a_question(root=((0, 1),) * sides)
                self.assertIs(question_fits(a_setting(dims), question), sides == dims + 1, (dims, sides))


class Asked(unittest.TestCase):
    def test_both_ends_are_included(self):
        question = a_question(earliest=4, latest=6)
        readings = [(moment, a_reading(moment=moment)) for moment in range(2, 9)]
        self.assertEqual([number for number, _ in asked(question, readings)], [4, 5, 6])

    def test_the_order_is_kept(self):
        question = a_question(earliest=4, latest=6)
        readings = [(9, a_reading("c", 5)), (-2, a_reading("b", 7)), (4, a_reading("a", 4)), (7, a_reading("b", 6)),
                    (1, a_reading("c", 3)), (0, a_reading("c", 6))]
        found = asked(question, readings)
        self.assertEqual(found, [readings[0], readings[2], readings[3], readings[5]])
        self.assertIs(type(found), list)
        self.assertTrue(all(type(pair) is tuple for pair in found))

    def test_the_moment_of_the_question_plays_no_part(self):
        question = a_question(moment=0, earliest=4, latest=4)
        self.assertEqual(asked(question, [(1, a_reading(moment=0))]), [])
        self.assertEqual(len(asked(question, [(1, a_reading(moment=4))])), 1)

    def test_nothing_is_changed(self):
        question, readings = a_question(earliest=0, latest=0), [(1, a_reading(moment=1)), (2, a_reading(moment=0))]
        before = copy.deepcopy(readings)
        found = asked(question, readings)
        found.append(None)
        self.assertEqual(readings, before)
        self.assertEqual(asked(question, []), [])


if __name__ == "__main__":
    unittest.main()
