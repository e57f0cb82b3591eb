"""Papers described in lines (point [114])."""

import copy
import unittest

from sureplace.judge.papers import Known, Paper
from sureplace.tools.reports import report
from tests.some_papers import Found

LINE = ((0, 8), (0, 0), (0, 0))


class Reports(unittest.TestCase):
    def test_an_empty_paper(self):
        self.assertEqual(report(Paper((), (), ())), [])

    def test_lines(self):
        paper = Paper(
            (Known(-5, (LINE, LINE), (("cut", 0, 4), ("kept", 0), ("kept", 1))), Known(0, (), (("known", 0),))),
            ((("cut", 0, 4), ("reading", 7), ("cut", 1, -2), ("known", 1), ("reading", 3)), (("reading", 12),), (),
             (("kept", 5), ("known", 0))),
            ((0, (1, 2)), (1, ()), (3, (3, 3))))
        self.assertEqual(report(paper), [
            "known 0: moment -5, 2 boxes, 3 steps",
            "known 1: moment 0, 0 boxes, 1 steps",
            "tree 0: 5 steps, 2 cuts, readings 7,3, known 1",
            "tree 1: 1 steps, 0 cuts, readings 12, known -",
            "tree 2: 0 steps, 0 cuts, readings -, known -",
            "tree 3: 2 steps, 0 cuts, readings -, known 0",
            "step 0: tree 0, next 1,2",
            "step 1: tree 1, next -",
            "step 2: tree 3, next 3,3"])

    def test_numbers_of_steps_each_once(self):
        tree = (("reading", 9), ("known", 3), ("reading", -2), ("reading", 9), ("known", 3), ("known", 1),
                ("reading", 0), ("kept", 9), ("cut", 9, 3))
        self.assertEqual(report(Paper((), (tree,), ())),
                         ["tree 0: 9 steps, 1 cuts, readings 9,-2,0, known 3,1"])

    def test_places_are_aligned_in_their_group(self):
        things = tuple(Known(k, (), ()) for k in range(10))
        trees = tuple((("reading", k),) for k in range(11))
        steps = tuple((k, ()) for k in range(101))
        told = report(Paper(things, trees, steps))
        self.assertEqual(len(told), 122)
        self.assertEqual(told[0], "known 0: moment 0, 0 boxes, 0 steps")
        self.assertEqual(told[9], "known 9: moment 9, 0 boxes, 0 steps")
        self.assertEqual(told[10], "tree  0: 1 steps, 0 cuts, readings 0, known -")
        self.assertEqual(told[20], "tree 10: 1 steps, 0 cuts, readings 10, known -")
        self.assertEqual(told[21], "step   0: tree 0, next -")
        self.assertEqual(told[31], "step  10: tree 10, next -")
        self.assertEqual(told[121], "step 100: tree 100, next -")

    def test_papers_that_were_found(self):
        """Each line, put together from the words of the point."""
        for seed in range(30):
            for _, paper in Found(seed).papers:
                before = copy.deepcopy(paper)
                lines = [f"known {k:{len(str(len(paper.known) - 1))}}: moment {thing.moment},"
                         f" {len(thing.cover)} boxes, {len(thing.tree)} steps" for k, thing in enumerate(paper.known)]
                for k, tree in enumerate(paper.trees):
                    numbers = {word: ",".join(dict.fromkeys(str(step[1]) for step in tree if step[0] == word)) or "-"
                               for word in ("reading", "known")}
                    lines.append(f"tree {k:{len(str(len(paper.trees) - 1))}}: {len(tree)} steps,"
                                 f" {sum(step[0] == 'cut' for step in tree)} cuts, readings {numbers['reading']},"
                                 f" known {numbers['known']}")
                for k, (tree, following) in enumerate(paper.steps):
                    lines.append(f"step {k:{len(str(len(paper.steps) - 1))}}: tree {tree}, next "
                                 + (",".join(str(step) for step in following) or "-"))
                self.assertEqual(report(paper), lines)
                self.assertEqual(paper, before)


if __name__ == "__main__":
    unittest.main()
