"""Makers of papers, and suspicions (points [44] and [45])."""

import copy
import unittest

from sureplace.judge.papers import Known, Paper, judge_known, judge_paper, used_by
from sureplace.liars.makers import Suspicion, make_paper, suspicion
from sureplace.liars.meetings import fewest, least_sets, make_steps, surely
from sureplace.search.covers import know
from sureplace.search.plans import Plan
from tests.helpers import a_question, a_reading, a_setting, dice
from tests.worlds import SOURCES, a_case

STILL = a_setting(speed=0, drift=0, per=1)
ROOT = ((0, 8), (0, 8), (0, 0))
TREES = ((("reading", 1),), (("reading", 2),), (("known", 0),), ())
READINGS = [(1, a_reading("a", 0, ("side", (1, 0)), low=9, high=20)),
            (2, a_reading("b", 0, ("side", (0, 1)), low=4, high=20)),
            (3, a_reading("c", 4, ("side", (1, 0)), low=12, high=20)),
            (4, a_reading("d", 50, ("side", (1, 0)), low=12, high=20))]
KNOWN = (Known(4, (), (("reading", 3),)),)
WRONG = Known(4, (), (("reading", 2),))


class Suspicions(unittest.TestCase):
    def test_the_fields(self):
        used, sets = [("a", "b"), None, ("b", "c")], [("b",), ("a", "c")]
        told = Suspicion(used, sets)
        self.assertEqual((told.used, told.sets, told.fewest, told.surely), (used, sets, 1, ()))
        told = Suspicion(used=used, sets=[("c", "b"), ("b", "a")])
        self.assertEqual((told.fewest, told.surely), (2, ("b",)))
        told = Suspicion([], [])
        self.assertEqual((told.fewest, told.surely), (None, ()))
        told = Suspicion([None], [()])
        self.assertEqual((told.fewest, told.surely), (0, ()))

    def test_equality(self):
        told = Suspicion([("a",)], [("a",)])
        self.assertEqual(told, Suspicion([("a",)], [("a",)]))
        for other in (Suspicion([("b",)], [("a",)]), Suspicion([("a",)], []), Suspicion([("a",)], [("b",)])):
            self.assertNotEqual(told, other)
        self.assertNotEqual(Suspicion([], [("a",), ("b",)]), Suspicion([], [("a",), ("c",)]))
        for other in (None, "a", ([("a",)], [("a",)]), [told]):
            self.assertIs(told == other, False)
            self.assertIs(told != other, True)


class MakePaper(unittest.TestCase):
    def made(self, *, known=KNOWN, trees=TREES, box=ROOT, liars=0, honest=()):
        return make_paper(STILL, a_question(0, ROOT, liars=liars), READINGS, known, trees, box, honest=honest)

    def test_a_paper(self):
        self.assertEqual(self.made(), Paper(KNOWN, TREES, ((0, ()),)))
        self.assertEqual(self.made(liars=1), Paper(KNOWN, TREES, ((0, (1,)), (2, ()))))
        self.assertEqual(self.made(liars=1, honest=("a",)), Paper(KNOWN, TREES, ((0, ()),)))
        self.assertEqual(self.made(known=(), trees=TREES[1:], box=((0, 8), (0, 3), (0, 0))),
                         Paper((), TREES[1:], ((0, ()),)))

    def test_lists_become_tuples(self):
        for kind in (list, tuple):
            self.assertEqual(self.made(known=kind(KNOWN), trees=kind(TREES), liars=1),
                             Paper(KNOWN, TREES, ((0, (1,)), (2, ()))))

    def test_names_if_there_is_no_paper(self):
        # Tree 1 shows nothing for the root.
        self.assertEqual(self.made(liars=2), ("a", "c"))
        self.assertEqual(self.made(liars=3), ("a", "c"))
        self.assertEqual(self.made(liars=2, honest=("b", "z")), ("a", "c"))
        self.assertEqual(self.made(liars=2, honest=("a",)), Paper(KNOWN, TREES, ((0, ()),)))
        self.assertEqual(self.made(trees=()), ())
        self.assertEqual(self.made(trees=TREES[1:2]), ())
        # For a smaller box it does.
        small = ((0, 8), (0, 3), (0, 0))
        self.assertEqual(self.made(liars=2, box=small), Paper(KNOWN, TREES, ((0, (1,)), (1, (2,)), (2, ()))))

    def test_known_things_that_are_not_right(self):
        for known in ((WRONG,), KNOWN + (WRONG,), (WRONG,) + KNOWN, [WRONG]):
            for liars in (0, 3):
                self.assertIsNone(self.made(known=known, liars=liars))
        # A reading of which the question does not ask.
        self.assertIsNone(self.made(known=(Known(50, (), (("reading", 4),)),)))

    def test_what_is_given_stays_as_it_is(self):
        given = [list(READINGS), list(KNOWN), list(TREES)]
        before = copy.deepcopy(given)
        paper = make_paper(STILL, a_question(0, ROOT), given[0], given[1], given[2], ROOT)
        self.assertEqual(given, before)
        given[1].append(WRONG)
        given[2].append(())
        self.assertEqual((paper.known, paper.trees), (KNOWN, TREES))


class Suspects(unittest.TestCase):
    def told(self, *, known=KNOWN, trees=TREES, liars=2, honest=()):
        return suspicion(STILL, a_question(0, ROOT, liars=liars), READINGS, known, trees, honest=honest)

    def test_for_the_root(self):
        self.assertEqual(self.told(), Suspicion([("a",), None, ("c",), None], [("a", "c")]))
        self.assertEqual((self.told().fewest, self.told().surely), (2, ("a", "c")))
        self.assertEqual(self.told(honest=("c",)), Suspicion([("a",), None, ("c",), None], []))
        self.assertEqual(self.told(liars=1), Suspicion([("a",), None, ("c",), None], []))
        self.assertEqual(self.told(trees=[]), Suspicion([], [()]))
        self.assertEqual(self.told(known=list(KNOWN)), self.told())

    def test_known_things_that_are_not_right(self):
        self.assertIsNone(self.told(known=(WRONG,)))
        self.assertIsNone(self.told(known=[WRONG], trees=()))

    def test_what_is_given_stays_as_it_is(self):
        given = [list(READINGS), list(KNOWN), list(TREES)]
        before = copy.deepcopy(given)
        suspicion(STILL, a_question(0, ROOT, liars=2), given[0], given[1], given[2])
        self.assertEqual(given, before)


class AnyCases(unittest.TestCase):
    def test_what_is_made_is_accepted(self):
        chance, made, not_made = dice(81), 0, 0
        for _ in range(150):
            setting, question, readings, _ = a_case(chance)
            plan = Plan((3, 5), grain=9, most=3, without=((), tuple(chance.sample(SOURCES, 1))))
            known = know(setting, question, readings, plan)[0]
            honest = tuple(chance.sample(SOURCES, chance.randint(0, 1)))
            trees = [(("reading", number),) for number, _ in readings] + [(("known", k),) for k in range(len(known))]
            chance.shuffle(trees)
            sides = tuple((low + (high - low) * chance.randint(0, 3) // 4, high) for low, high in question.root)
            used = used_by(setting, question, readings, judge_known(setting, question, readings, known), trees, sides)
            told = make_paper(setting, question, readings, known, trees, sides, honest=honest)
            word, due = make_steps(used, honest=honest, liars=question.liars)
            if word == "steps":
                made += 1
                self.assertEqual(told, Paper(tuple(known), tuple(trees), due))
                self.assertIs(judge_paper(setting, question, readings, told, sides, honest=honest), True)
            else:
                not_made += 1
                self.assertEqual(told, due)
            seen = suspicion(setting, question, readings, known, trees, honest=honest)
            held = judge_known(setting, question, readings, known)
            self.assertEqual(seen.used, used_by(setting, question, readings, held, trees, question.root))
            self.assertEqual(seen.sets, least_sets(seen.used, honest=honest, liars=question.liars))
            self.assertEqual((seen.fewest, seen.surely), (fewest(seen.sets), surely(seen.sets)))
        self.assertGreater(min(made, not_made), 30)


if __name__ == "__main__":
    unittest.main()
