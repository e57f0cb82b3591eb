"""What a paper needs (points [108] and [113])."""

import copy
import unittest

from sureplace.judge.papers import Known, Paper, judge_known, judge_paper, used_by
from sureplace.tools.tidying import rests_on, tidy
from tests.helpers import a_question, a_setting, says_x
from tests.some_papers import Found

STILL = a_setting(speed=0, drift=0, per=1)
LINE = ((0, 8), (0, 0), (0, 0))
KEEP = (("kept", 0),)
ONE = ((0, ()),)
PLAIN = Known(0, (LINE,), KEEP)


# Each of them excludes the line, but for d.
READINGS = [(1, says_x("a", 9, 9)), (2, says_x("b", 9, 9)), (3, says_x("c", 9, 9)), (4, says_x("d", 0, 8))]


def by(*numbers):
    return tuple((("reading", number),) for number in numbers)


class Case(unittest.TestCase):
    def tidy(self, paper, *, liars=1, box=LINE, readings=READINGS, **more):
        question = a_question(0, LINE, liars=liars, share=1)
        before = copy.deepcopy((paper, readings))
        told = tidy(STILL, question, readings, paper, box, **more)
        accepted = judge_paper(STILL, question, readings, paper, box, **more)
        self.assertIs(told is not None, accepted)
        sources = rests_on(STILL, question, readings, paper, box, **more)
        if accepted:
            self.assertIs(judge_paper(STILL, question, readings, told, box, **more), True)
            self.assertEqual(tidy(STILL, question, readings, told, box, **more), told)
            self.assertEqual(rests_on(STILL, question, readings, told, box, **more), sources)
            self.assertIsInstance(sources, tuple)
            self.assertEqual([type(part) for part in (told.known, told.trees, told.steps)], [tuple] * 3)
        else:
            self.assertIsNone(sources)
        self.assertEqual((paper, readings), before)
        return told

    def rests_on(self, paper, *, liars=1, box=LINE, readings=READINGS, **more):
        return rests_on(STILL, a_question(0, LINE, liars=liars, share=1), readings, paper, box, **more)


class Tidying(Case):
    def test_a_paper_that_needs_everything(self):
        paper = Paper((), by(1, 2), ((0, (1,)), (1, ())))
        self.assertEqual(self.tidy(paper), paper)
        self.assertEqual(self.rests_on(paper), ("a", "b"))

    def test_steps_to_which_no_way_leads(self):
        paper = Paper((), by(1, 2), ((0, (3,)), (99, (7, -2)), (0, (0,)), (1, ()), (1, ())))
        self.assertEqual(self.tidy(paper), Paper((), by(1, 2), ((0, (1,)), (1, ()))))

    def test_next_steps_that_several_ways_lead_to(self):
        pair = (("cut", 0, 4), ("reading", 1), ("reading", 2))
        paper = Paper((), (pair,) + by(3), ((0, (3, 3)), (0, ()), (1, ()), (1, ()), (1, ())))
        self.assertEqual(self.tidy(paper), Paper((), (pair,) + by(3), ((0, (1, 1)), (1, ()))))
        paper = Paper((), (pair,) + by(3), ((0, (4, 2)), (0, ()), (1, ()), (1, ()), (1, ())))
        self.assertEqual(self.tidy(paper), Paper((), (pair,) + by(3), ((0, (2, 1)), (1, ()), (1, ()))))

    def test_trees_that_no_needed_step_names(self):
        paper = Paper((), by(9, 1, 4) + ((),) + by(2, 3), ((1, (2,)), (5, ()), (4, ()), (0, ())))
        self.assertEqual(self.tidy(paper), Paper((), by(1, 2), ((0, (1,)), (1, ()))))
        self.assertEqual(self.rests_on(paper), ("a", "b"))
        # The first step needs the second tree: the order of the trees stays.
        paper = Paper((), by(3, 1, 2), ((2, (1,)), (1, ())))
        self.assertEqual(self.tidy(paper), Paper((), by(1, 2), ((1, (1,)), (0, ()))))
        self.assertEqual(self.rests_on(paper), ("b", "a"))

    def test_known_things_that_are_not_named(self):
        first = Known(0, (), (("reading", 1),))
        known = (PLAIN, first, PLAIN, Known(3, (), (("known", 1),)), Known(5, (), (("reading", 2),)),
                 Known(4, (), (("cut", 0, 2), ("known", 3), ("known", 1))), PLAIN)
        for place, due in (
                (1, (first,)), (3, (first, Known(3, (), (("known", 0),)))), (4, (known[4],)),
                (5, (first, Known(3, (), (("known", 0),)),
                     Known(4, (), (("cut", 0, 2), ("known", 1), ("known", 0)))))):
            paper = Paper(known, ((("known", 0),), (("cut", 0, 3), ("known", place), ("reading", 3))), ((1, ()),))
            tree = (("cut", 0, 3), ("known", len(due) - 1), ("reading", 3))
            self.assertEqual(self.tidy(paper, liars=0), Paper(due, (tree,), ONE))

    def test_a_tree_that_is_not_needed_needs_no_things(self):
        known = (Known(0, (), (("reading", 1),)), Known(0, (), (("reading", 2),)))
        paper = Paper(known, ((("known", 0),), (("known", 1),)), ((1, ()), (0, ())))
        self.assertEqual(self.tidy(paper, liars=0), Paper(known[1:], ((("known", 0),),), ONE))

    def test_equal_trees_and_things_stay(self):
        paper = Paper((), by(1, 1, 2), ((1, (1,)), (2, ())))
        self.assertEqual(self.tidy(paper), Paper((), by(1, 2), ((0, (1,)), (1, ()))))
        thing = Known(0, (), (("reading", 1),))
        tree = (("cut", 0, 2), ("known", 0), ("known", 1))
        self.assertEqual(self.tidy(Paper((thing, thing), (tree,), ONE), liars=0), Paper((thing, thing), (tree,), ONE))

    def test_a_paper_that_is_not_accepted(self):
        for paper in (Paper((), by(1), ONE), Paper((), by(1, 4), ((0, (1,)), (1, ()))), Paper((), (), ()),
                      Paper((), by(1, 2), ()), Paper((Known(0, (), (("reading", 4),)),), by(1, 2), ((0, (1,)), (1, ())))):
            self.assertIsNone(self.tidy(paper))
        # It is for another box.
        paper = Paper((), ((("cut", 0, 4), ("reading", 1), ("reading", 1)),), ONE)
        self.assertEqual(self.tidy(paper, liars=0), paper)
        self.assertIsNone(self.tidy(paper, liars=0, box=((0, 3), (0, 0), (0, 0))))
        self.assertIsNone(self.tidy(Paper((), by(1, 2), ((0, (1,)), (1, ()))), liars=2))
        self.assertIsNone(self.tidy(Paper((), by(1, 2), ((0, (1,)), (1, ()))), liars=0))

    def test_honest_names(self):
        paper = Paper((), by(3, 1), ((1, ()), (0, ())))
        self.assertEqual(self.tidy(paper, honest=("a",)), Paper((), by(1), ONE))
        self.assertIsNone(self.tidy(paper, honest=("c",)))
        self.assertIsNone(self.tidy(paper))

    def test_a_paper_that_rests_on_nobody(self):
        known = (Known(0, (), (("cut", 0, 3), ("kept", 0), ("kept", 0))), Known(0, (LINE,), KEEP))
        self.assertIsNone(self.tidy(Paper(known, ((("known", 0),),), ONE)))
        far = ((50, 60), (0, 0), (0, 0))
        paper = Paper((PLAIN,), ((("known", 0),),), ONE)
        self.assertEqual(self.tidy(paper, box=far), paper)
        self.assertEqual(self.rests_on(paper, box=far), ())


class RestsOn(Case):
    def test_in_the_order_of_the_steps(self):
        pair = (("cut", 0, 4), ("reading", 3), ("reading", 1))
        for steps, due in ((((0, (1, 2)), (1, ()), (1, ())), ("c", "a", "b")),
                           (((1, (2,)), (0, ()), (0, ())), ("b", "c", "a"))):
            paper = Paper((), (pair,) + by(2), steps)
            self.assertEqual(self.rests_on(paper), due)
            self.tidy(paper)

    def test_not_on_what_is_not_needed(self):
        self.assertEqual(self.rests_on(Paper((), by(1, 2, 3), ((2, (2,)), (1, ()), (0, ())))), ("c", "a"))
        known = (Known(0, (), (("reading", 2),)), Known(0, (), (("reading", 3),)))
        paper = Paper(known, ((("cut", 0, 4), ("known", 1), ("reading", 1)),), ONE)
        self.assertEqual(self.rests_on(paper, liars=0), ("c", "a"))

    def test_each_once(self):
        tree = (("cut", 0, 4), ("reading", 1), ("cut", 0, 6), ("reading", 2), ("reading", 1))
        self.assertEqual(self.rests_on(Paper((), (tree,), ONE), liars=0), ("a", "b"))


class FoundPapers(unittest.TestCase):
    def needed(self, paper):
        """What is needed, each by a closure of its own."""
        steps, waiting = set(), [0]
        while waiting:
            step = waiting.pop()
            if step not in steps:
                steps.add(step)
                waiting += paper.steps[step][1]
        trees = {paper.steps[step][0] for step in steps}
        known, waiting = set(), [step[1] for tree in trees for step in paper.trees[tree] if step[0] == "known"]
        while waiting:
            place = waiting.pop()
            if place not in known:
                known.add(place)
                waiting += [step[1] for step in paper.known[place].tree if step[0] == "known"]
        return sorted(steps), sorted(trees), sorted(known)

    def tidied(self, paper):
        steps, trees, known = self.needed(paper)

        def new(tree):
            return tuple(("known", known.index(step[1])) if step[0] == "known" else step for step in tree)

        things = [paper.known[place] for place in known]
        return Paper(tuple(Known(thing.moment, thing.cover, new(thing.tree)) for thing in things),
                     tuple(new(paper.trees[tree]) for tree in trees),
                     tuple((trees.index(paper.steps[step][0]), tuple(steps.index(n) for n in paper.steps[step][1]))
                           for step in steps))

    def cluttered(self, chance, paper, question):
        """The paper with steps, trees and things that it does not need, at any places."""
        def places(many):
            found = sorted(chance.sample(range(2 * many + 1), many))
            return found, (found[-1] if found else -1) + 1 + chance.randint(0, 2)

        new_known, many_known = places(len(paper.known))
        new_trees, many_trees = places(len(paper.trees))
        new_steps, many_steps = places(len(paper.steps))
        new_steps, many_steps = [n - new_steps[0] for n in new_steps], many_steps - new_steps[0]

        def new(tree):
            return tuple(("known", new_known[step[1]]) if step[0] == "known" else step for step in tree)

        known = [Known(question.moment, (question.root,), KEEP)] * many_known
        for old, at in enumerate(new_known):
            known[at] = Known(paper.known[old].moment, paper.known[old].cover, new(paper.known[old].tree))
        trees = [chance.choice(((("reading", -1),), (), (("known", 0),), (("kept", 7),))) for _ in range(many_trees)]
        for old, at in enumerate(new_trees):
            trees[at] = new(paper.trees[old])
        steps = [(chance.randint(-1, 9), (chance.randint(0, 9),)) for _ in range(many_steps)]
        for old, at in enumerate(new_steps):
            steps[at] = (new_trees[paper.steps[old][0]], tuple(new_steps[n] for n in paper.steps[old][1]))
        return Paper(tuple(known), tuple(trees), tuple(steps))

    def test_papers_that_were_found(self):
        smaller = checked = 0
        for seed in range(80):
            found = Found(seed)
            for box, paper in found.some(6):
                for one in (paper, self.cluttered(found.chance, paper, found.question)):
                    self.assertIs(judge_paper(*found.given, one, box), True)
                    told = tidy(*found.given, one, box)
                    self.assertEqual(told, self.tidied(paper))
                    self.assertIs(judge_paper(*found.given, told, box), True)
                    self.check_sources(found, one, box)
                    checked += 1
                smaller += told != paper
                self.assertIsNone(tidy(*found.given, Paper(paper.known, paper.trees[:-1], paper.steps), box)
                                  if len(paper.trees) == 1 else None)
        self.assertGreater(checked, 200)
        self.assertGreater(smaller, 50)

    def check_sources(self, found, paper, box):
        held = judge_known(*found.given, paper.known)
        used = used_by(*found.given, held, paper.trees, box)
        due = []
        for step in self.needed(paper)[0]:
            due += [name for name in used[paper.steps[step][0]] if name not in due]
        self.assertEqual(rests_on(*found.given, paper, box), tuple(due))


if __name__ == "__main__":
    unittest.main()
