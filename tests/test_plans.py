"""Plans (point [55])."""

import copy
import unittest

from sureplace.errors import InvalidPlan, SurePlaceError
from sureplace.search.plans import Plan
from tests.helpers import raised


def a_plan(moments=(1, 2), *, grain=3, most=4, without=((), ("a",))):
    return Plan(moments, grain=grain, most=most, without=without)


class Plans(unittest.TestCase):
    def test_the_fields(self):
        plan = a_plan()
        self.assertEqual((plan.moments, plan.grain, plan.most, plan.without), ((1, 2), 3, 4, ((), ("a",))))
        self.assertEqual(Plan(moments=(), grain=1, most=1, without=()).moments, ())

    def test_equality(self):
        self.assertEqual(a_plan(), a_plan())
        for other in (a_plan((1, 3)), a_plan(grain=2), a_plan(most=5), a_plan(without=())):
            self.assertNotEqual(a_plan(), other)
        for other in (None, 1, (1, 2), [a_plan()]):
            self.assertIs(a_plan() == other, False)
            self.assertIs(a_plan() != other, True)

    def test_moments_ascend(self):
        for moments in ((), (5,), (-9, 0, 4), (-10 ** 30, 10 ** 30)):
            self.assertEqual(a_plan(moments).moments, moments)
        for moments in ((1, 1), (2, 1), (0, 1, 1), (0, 2, 1), (1, 0, 2)):
            self.assertIs(raised(a_plan, moments), InvalidPlan, moments)

    def test_at_most_16_moments_and_8_tuples(self):
        self.assertEqual(len(a_plan(tuple(range(16))).moments), 16)
        self.assertIs(raised(a_plan, tuple(range(17))), InvalidPlan)
        self.assertEqual(len(a_plan(without=((),) * 8).without), 8)
        self.assertIs(raised(a_plan, without=((),) * 9), InvalidPlan)
        self.assertEqual(a_plan(without=(tuple("abcdefghijklm"),)).without, (tuple("abcdefghijklm"),))

    def test_grain_and_most(self):
        for number, told in ((1, None), (2, None), (10 ** 30, None), (0, InvalidPlan), (-1, InvalidPlan)):
            self.assertIs(raised(a_plan, grain=number), told, number)
            self.assertIs(raised(a_plan, most=number), told, number)

    def test_whether_the_texts_are_names_is_not_asked(self):
        without = (("", "No name!", "a" * 99), ("a", "a"))
        self.assertEqual(a_plan(without=without).without, without)

    def test_the_error(self):
        with self.assertRaises(SurePlaceError):
            a_plan((2, 1))

    def test_what_is_given_stays_as_it_is(self):
        given = [(1, 2), ((), ("a",))]
        before = copy.deepcopy(given)
        a_plan(given[0], without=given[1])
        self.assertEqual(given, before)


if __name__ == "__main__":
    unittest.main()
