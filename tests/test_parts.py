"""Papers for parts of boxes, and for two parts together (points [109] to [112])."""

import copy
import unittest

from sureplace.judge.papers import Known, Paper, judge_known, judge_paper, used_by
from sureplace.liars.makers import make_paper
from sureplace.numbers.boxes import cut, halves
from sureplace.tools.parts import joined, pruned, remade, restricted
from tests.helpers import a_box, a_question, a_reading, a_setting, dice, says_x
from tests.some_papers import Found, a_part, any_tree, finer, with_kinds

STILL = a_setting(speed=0, drift=0, per=1)
LINE = ((0, 8), (0, 0), (0, 0))
KEEP = (("kept", 0),)
ONE = ((0, ()),)
TWO = ((0, (1,)), (1, ()))


def x_from(low, high):
    return ((low, high), (0, 0), (0, 0))


def by(*numbers):
    return tuple((("reading", number),) for number in numbers)


# The place is from 4 to 8 by a, from 0 to 3 by b, and nowhere on the line by c and by d.
READINGS = [(1, says_x("a", 4, 8)), (2, says_x("b", 0, 3)), (3, says_x("c", 9, 9)), (4, says_x("d", 9, 9))]
FIRST, SECOND, THIRD, OTHER = ("reading", 1), ("reading", 2), ("reading", 3), ("reading", 4)


class Pruned(unittest.TestCase):
    TREE = (("cut", 0, 4), ("cut", 0, 2), FIRST, SECOND, ("cut", 1, 0), THIRD, OTHER)

    def test_examples(self):
        box = ((0, 8), (-4, 4), (0, 0))
        for x, y, due in (
                ((0, 8), (-4, 4), self.TREE), ((3, 5), (-1, 1), (("cut", 0, 4), SECOND, ("cut", 1, 0), THIRD, OTHER)),
                ((0, 4), (-4, 4), (("cut", 0, 2), FIRST, SECOND)), ((4, 8), (-4, 4), (("cut", 1, 0), THIRD, OTHER)),
                ((0, 2), (-4, 4), (FIRST,)), ((2, 4), (-4, 4), (SECOND,)), ((5, 8), (-4, 0), (THIRD,)),
                ((5, 8), (0, 4), (OTHER,)), ((5, 8), (-1, 1), (("cut", 1, 0), THIRD, OTHER)),
                ((1, 5), (1, 4), (("cut", 0, 4), ("cut", 0, 2), FIRST, SECOND, OTHER)),
                ((2, 6), (0, 0), (("cut", 0, 4), SECOND, THIRD))):
            self.assertEqual(pruned(self.TREE, box, (x, y, (0, 0))), due, (x, y))

    def test_an_end_at_the_place_of_a_cut(self):
        box, tree = LINE, (("cut", 0, 4), FIRST, SECOND)
        for side, due in (((0, 3), FIRST), ((0, 4), FIRST), ((4, 8), SECOND), ((5, 8), SECOND), ((4, 4), FIRST),
                          ((3, 3), FIRST), ((5, 5), SECOND)):
            self.assertEqual(pruned(tree, box, (side,) + LINE[1:]), (due,), side)
        for side in ((3, 5), (0, 8), (3, 8), (0, 5)):
            self.assertEqual(pruned(tree, box, (side,) + LINE[1:]), tree, side)

    def test_the_cut_part_is_pruned_further(self):
        # Behind the cut at 4 the part ends there, so that the cut at 6 in the first tree falls away.
        tree = (("cut", 0, 4), ("cut", 0, 6), FIRST, SECOND, ("cut", 0, 2), THIRD, OTHER)
        self.assertEqual(pruned(tree, LINE, x_from(1, 7)), (("cut", 0, 4), FIRST, OTHER))
        # Cuts that do not cut the box fall away, too.
        self.assertEqual(pruned((("cut", 0, 8), FIRST, SECOND), LINE, LINE), (FIRST,))
        self.assertEqual(pruned((("cut", 0, 0), FIRST, SECOND), LINE, LINE), (SECOND,))
        self.assertEqual(pruned((("cut", 1, 0), FIRST, SECOND), LINE, LINE), (FIRST,))
        self.assertEqual(pruned((("cut", 0, 99), FIRST, SECOND), LINE, LINE), (FIRST,))

    def test_steps_that_are_no_cuts_stay(self):
        for step in (("reading", 99), ("known", -7), ("kept", 3)):
            self.assertEqual(pruned((step,), LINE, x_from(3, 3)), (step,))

    def test_the_clock_is_an_axis(self):
        box = ((0, 8), (0, 0), (-4, 4))
        self.assertEqual(pruned((("cut", 2, 1), FIRST, SECOND), box, ((0, 8), (0, 0), (2, 4))), (SECOND,))

    def test_what_is_not_one_tree_stays(self):
        part = x_from(0, 1)
        for tree in ((), (("cut", 0, 4),), (("cut", 0, 4), FIRST), (("cut", 0, 4), FIRST, SECOND, THIRD),
                     (FIRST, SECOND), (FIRST, ("cut", 0, 4), SECOND, THIRD), (FIRST, ("cut", 0, 4), SECOND),
                     (("cut", 0, 4), ("cut", 3, 4), FIRST, SECOND, THIRD), (("cut", -1, 4), FIRST, SECOND),
                     (("cut", 0, 4), FIRST, ("cut", 3, 4), SECOND, THIRD)):
            self.assertEqual(pruned(tree, LINE, part), tree)

    def test_deep_trees(self):
        tree = ()
        for place in range(3000):
            tree += (("cut", 0, place), FIRST)
        tree += (SECOND,)
        box = x_from(-1, 3000)
        self.assertEqual(pruned(tree, box, x_from(5000, 5000)), (SECOND,))
        self.assertEqual(pruned(tree, box, x_from(2998, 5000)), (("cut", 0, 2999), FIRST, SECOND))
        self.assertEqual(pruned(tree, box, box), tree)

    def reference(self, tree, part):
        """The pruned tree and the rest of the steps, by the words of point [109]."""
        step, rest = tree[0], tree[1:]
        if step[0] != "cut":
            return (step,), rest
        _, axis, place = step
        low, high = part[axis]
        below = part[:axis] + ((low, min(place, high)),) + part[axis + 1:]
        above = part[:axis] + ((max(place, low), high),) + part[axis + 1:]
        first, rest = self.reference(rest, below)
        second, rest = self.reference(rest, above)
        if high <= place:
            return first, rest
        return (second if low >= place else (step,) + first + second), rest

    def test_by_the_words_of_the_point(self):
        chance = dice(5)
        shorter = 0
        for _ in range(600):
            sides = chance.choice((3, 4))
            box = a_box(chance, sides, longest=9)
            tree, part = any_tree(chance, sides, chance.randint(0, 12)), a_part(chance, box)
            due, rest = self.reference(tree, part)
            self.assertEqual(rest, ())
            before = copy.deepcopy((tree, box, part))
            self.assertEqual(pruned(tree, box, part), due)
            self.assertEqual((tree, box, part), before)
            shorter += len(due) < len(tree)
        self.assertGreater(shorter, 300)


class Case(unittest.TestCase):
    def question(self, liars):
        return a_question(0, LINE, liars=liars, share=1)


class Restricted(Case):
    def restricted(self, paper, part, *, liars=0, box=LINE, **more):
        question = self.question(liars)
        before = copy.deepcopy(paper)
        told = restricted(STILL, question, READINGS, paper, box, part, **more)
        self.assertEqual(paper, before)
        if told is not None:
            self.assertIs(judge_paper(STILL, question, READINGS, told, part, **more), True)
        return told

    def test_trees_are_pruned_and_steps_are_made(self):
        tree = (("cut", 0, 4), ("cut", 0, 3), FIRST, THIRD, ("cut", 0, 5), THIRD, SECOND)
        paper = Paper((), (tree,), ONE)
        self.assertEqual(self.restricted(paper, LINE), paper)
        self.assertEqual(self.restricted(paper, x_from(1, 2)), Paper((), ((FIRST,),), ONE))
        self.assertEqual(self.restricted(paper, x_from(5, 8)), Paper((), ((SECOND,),), ONE))
        self.assertEqual(self.restricted(paper, x_from(3, 7)),
                         Paper((), ((("cut", 0, 4), THIRD, ("cut", 0, 5), THIRD, SECOND),), ONE))

    def test_known_things_and_trees_stay_in_number(self):
        thing = Known(0, (x_from(3, 8),), (("cut", 0, 3), FIRST, ("kept", 0)))
        paper = Paper((thing,), ((("cut", 0, 3), FIRST, THIRD),) + by(3, 9) + ((),), ONE)
        self.assertEqual(self.restricted(paper, x_from(0, 2)), Paper((thing,), by(1, 3, 9) + ((),), ONE))

    def test_other_steps_than_before(self):
        # The first tree shows nothing for the line, but it does for the part.
        paper = Paper((), by(1, 3), ((1, ()),))
        self.assertEqual(self.restricted(paper, x_from(0, 2)), Paper((), by(1, 3), ONE))
        # Fewer sources are suspects.
        tree = (("cut", 0, 3), FIRST, THIRD)
        paper = Paper((), (tree,) + by(4), ((0, (1, 2)), (1, ()), (1, ())))
        self.assertEqual(self.restricted(paper, x_from(0, 2), liars=1), Paper((), by(1, 4), TWO))

    def test_a_paper_that_is_not_accepted(self):
        self.assertIsNone(self.restricted(Paper((), by(1), ONE), x_from(0, 2)))
        self.assertIsNone(self.restricted(Paper((), by(3), ONE), x_from(0, 2), liars=1))
        self.assertIsNone(self.restricted(Paper((), by(3, 4), TWO), x_from(0, 2), honest=("c", "d")))
        self.assertIsNone(self.restricted(Paper((PLAIN_WRONG,), by(3), ONE), x_from(0, 2)))

    def test_honest_names(self):
        paper = Paper((), by(4, 3), ((1, ()),))
        self.assertIsNone(self.restricted(paper, x_from(0, 2), liars=1))
        told = self.restricted(paper, x_from(0, 2), liars=1, honest=("c",))
        self.assertEqual(told, Paper((), by(4, 3), TWO))
        paper = Paper((), by(3), ONE)
        self.assertIsNone(self.restricted(paper, x_from(0, 2), liars=1))
        self.assertEqual(self.restricted(paper, x_from(0, 2), liars=1, honest=("a", "c")), paper)

    def test_a_piece_can_be_lost(self):
        # The middle of the part lies farther from the middle of the box than the radius tells.
        readings = [(1, a_reading("a", 0, ("piece", (-10, 0), (-10, 5)), low=0, high=9))]
        paper, box = Paper((), by(1), ONE), x_from(0, 2)
        question = a_question(0, box, liars=0)
        for part, told in ((x_from(0, 2), True), (x_from(1, 2), True), (x_from(0, 1), False), (x_from(0, 0), True)):
            made = restricted(STILL, question, readings, paper, box, part)
            self.assertEqual(made, paper if told else None, part)

    def test_papers_that_were_found(self):
        counts = {True: 0, False: 0, "cuts": 0}
        for seed in range(80):
            found = Found(seed)
            for box, paper in found.some(6):
                trees = tuple(finer(found.chance, tree, box, found.chance.randint(0, 4)) for tree in paper.trees)
                fine = make_paper(*found.given, paper.known, trees, box)
                part = a_part(found.chance, box)
                told = restricted(*found.given, fine, box, part) if isinstance(fine, Paper) else None
                kinds = set().union(*[with_kinds(found.readings, tree) for tree in paper.trees])
                if "piece" not in kinds:
                    self.assertIsNotNone(told)
                if told is not None:
                    self.check(found, fine, told, box, part)
                    counts["cuts"] += any(step[0] == "cut" for tree in told.trees for step in tree)
                counts[told is not None] += 1
        self.assertGreater(counts[True], 150, counts)
        self.assertGreater(counts["cuts"], 50, counts)

    def check(self, found, paper, told, box, part):
        self.assertIs(judge_paper(*found.given, told, part), True)
        trees = tuple(pruned(tree, box, part) for tree in paper.trees)
        self.assertEqual((told.known, told.trees), (paper.known, trees))
        self.assertEqual(told, make_paper(*found.given, paper.known, trees, part))


PLAIN_WRONG = Known(0, (), KEEP)


class Joined(Case):
    def joined(self, first, second, *, liars=0, box=LINE, axis=0, place=4, **more):
        question = self.question(liars)
        before = copy.deepcopy((first, second))
        told = joined(STILL, question, READINGS, first, second, box, axis, place, **more)
        self.assertEqual((first, second), before)
        if told is not None:
            self.assertIs(judge_paper(STILL, question, READINGS, told, box, **more), True)
        return told

    def test_trees(self):
        first, second = Paper((), by(1), ONE), Paper((), by(2), ONE)
        tree = (("cut", 0, 4), FIRST, SECOND)
        # By a the place is from 4 on, so the first part goes up to 3.
        self.assertIsNone(self.joined(first, second))
        READ = [(1, says_x("a", 5, 8)), (2, says_x("b", 0, 3))]
        told = joined(STILL, self.question(0), READ, first, second, LINE, 0, 4)
        self.assertEqual(told, Paper((), (tree,), ONE))

    def test_each_tree_with_each_tree(self):
        first, second = Paper((), by(3, 1, 4), TWO), Paper((), by(4, 3), TWO)
        told = self.joined(first, second)
        self.assertEqual(told.trees, tuple((("cut", 0, 4), one, other) for one in (THIRD, FIRST, OTHER)
                                           for other in (OTHER, THIRD)))
        self.assertEqual(told, make_paper(STILL, self.question(0), READINGS, (), told.trees, LINE))
        told = self.joined(first, second, liars=1)
        self.assertEqual(told.steps, ((0, (1, 2)), (4, ()), (1, ())))

    def test_known_things(self):
        one = Known(0, (), (("cut", 0, 5), THIRD, OTHER))
        two = Known(1, (), (("known", 0),))
        first = Paper((one, two), ((("known", 1),), (("known", 0),)), ONE)
        second = Paper((two, one, two)[1:], ((("known", 1),), (("cut", 0, 6), ("known", 0), ("known", 1))), ONE)
        told = self.joined(first, second)
        self.assertEqual(told.known, (one, two, one, Known(1, (), (("known", 2),))))
        self.assertEqual(told.trees, (
            (("cut", 0, 4), ("known", 1), ("known", 3)),
            (("cut", 0, 4), ("known", 1), ("cut", 0, 6), ("known", 2), ("known", 3)),
            (("cut", 0, 4), ("known", 0), ("known", 3)),
            (("cut", 0, 4), ("known", 0), ("cut", 0, 6), ("known", 2), ("known", 3))))
        self.assertEqual(told.steps, ONE)

    def test_numbers_of_known_things_are_greater_whatever_they_are(self):
        one = Known(0, (), (THIRD,))
        told = self.joined(Paper((one,), by(3), ONE), Paper((), ((("known", -1),), (("known", 9),)), ONE))
        self.assertEqual(told.trees, ((("cut", 0, 4), THIRD, ("known", 0)), (("cut", 0, 4), THIRD, ("known", 10))))
        self.assertEqual(told.steps, ONE)

    def test_steps_that_are_no_tree_by_themselves(self):
        told = self.joined(Paper((), ((("cut", 0, 2), THIRD),), ONE), Paper((), ((THIRD, OTHER),), ONE))
        self.assertEqual(told, Paper((), ((("cut", 0, 4), ("cut", 0, 2), THIRD, THIRD, OTHER),), ONE))

    def test_a_box_that_cannot_be_cut_there(self):
        paper = Paper((), by(3), ONE)
        for axis, place, told in ((0, 1, True), (0, 7, True), (0, 0, False), (0, 8, False), (0, -1, False), (0, 9, False),
                                  (1, 0, False), (2, 0, False), (3, 4, False), (-3, 4, False), (-1, 0, False)):
            self.assertIs(self.joined(paper, paper, axis=axis, place=place) is not None, told, (axis, place))

    def test_no_paper_is_made(self):
        paper = Paper((), by(3), ONE)
        self.assertIsNone(self.joined(paper, paper, liars=1))
        self.assertIsNone(self.joined(paper, Paper((), by(1), ONE)))
        self.assertIsNone(self.joined(Paper((PLAIN_WRONG,), by(3), ONE), paper))
        self.assertIsNone(self.joined(paper, Paper((), (), ())))
        # The papers themselves need not be accepted.
        wrong = Paper((), by(3, 1), ((7, ()),))
        self.assertEqual(self.joined(wrong, wrong).steps, ONE)

    def test_honest_names(self):
        paper = Paper((), by(3), ONE)
        self.assertEqual(self.joined(paper, paper, liars=2, honest=("c",)).steps, ONE)
        self.assertIsNone(self.joined(paper, paper, liars=2, honest=("d",)))

    def test_cuts_within_one_another(self):
        def deep(cuts, low):
            """A tree with so many cuts within one another, at the end of the part."""
            tree = ()
            for k in range(cuts):
                tree += (("cut", 0, low + k), THIRD)
            return tree + (THIRD,)

        box = x_from(-1, 1000)
        for many, told in ((239, True), (240, False)):
            first, second = Paper((), (deep(many, 0),), ONE), Paper((), by(3), ONE)
            readings = [(3, says_x("c", 2000, 2000))]
            question = a_question(0, box, liars=0)
            self.assertIs(judge_paper(STILL, question, readings, first, x_from(-1, 500)), True)
            made = joined(STILL, question, readings, first, second, box, 0, 500)
            self.assertIs(made is not None, told, many)

    def test_papers_that_were_found(self):
        made = 0
        for seed in range(120):
            found = Found(seed)
            papers = {box: paper for box, paper in found.papers}
            root = found.question.root
            waiting = [root]
            while waiting:
                box = waiting.pop()
                parts = halves(box)
                if parts is None or box in papers:
                    continue
                waiting += parts
                if parts[0] in papers and parts[1] in papers:
                    axis = next(k for k in range(len(box)) if parts[0][k] != box[k])
                    place = parts[0][axis][1]
                    self.assertEqual(cut(box, axis, place), parts)
                    pair = [papers[part] for part in parts]
                    told = joined(*found.given, *pair, box, axis, place)
                    self.assertIs(judge_paper(*found.given, told, box), True)
                    self.assertEqual(len(told.trees), len(pair[0].trees) * len(pair[1].trees))
                    self.assertEqual(len(told.known), 2 * len(pair[0].known))
                    made += 1
        self.assertGreater(made, 30)


class Remade(Case):
    def remade(self, paper, *, liars=0, **more):
        question = self.question(liars)
        before = copy.deepcopy(paper)
        told = remade(STILL, question, READINGS, paper, LINE, **more)
        self.assertEqual(paper, before)
        if told is not None:
            self.assertIs(judge_paper(STILL, question, READINGS, told, LINE, **more), True)
        return told

    def test_new_steps(self):
        paper = Paper((), by(1, 3, 4), ((2, (1,)), (1, ()), (9, ())))
        self.assertEqual(self.remade(paper, liars=1), Paper((), by(1, 3, 4), ((1, (1,)), (2, ()))))
        self.assertEqual(self.remade(paper, liars=0), Paper((), by(1, 3, 4), ((1, ()),)))
        self.assertIsNone(self.remade(paper, liars=2))
        self.assertEqual(self.remade(paper, liars=2, honest=("d",)), Paper((), by(1, 3, 4), ((1, (1,)), (2, ()))))
        # The paper itself need not be accepted.
        self.assertEqual(self.remade(Paper((), by(3), ())), Paper((), by(3), ONE))
        self.assertIsNone(self.remade(Paper((PLAIN_WRONG,), by(3), ONE)))
        self.assertIsNone(self.remade(Paper((), by(1), ONE)))

    def test_papers_that_were_found(self):
        checked = 0
        for seed in range(80):
            found = Found(seed)
            for box, paper in found.some(6):
                question = found.question
                names = sorted({reading.source for _, reading in found.readings})
                for liars in range(question.liars + 1):
                    fewer = a_question(question.moment, question.root, liars=liars, share=question.share,
                                       earliest=question.earliest, latest=question.latest)
                    for honest in ((), tuple(found.chance.sample(names, 1)), tuple(names)):
                        told = remade(found.setting, fewer, found.readings, paper, box, honest=honest)
                        self.assertEqual((told.known, told.trees), (paper.known, paper.trees))
                        self.assertIs(judge_paper(found.setting, fewer, found.readings, told, box, honest=honest), True)
                        checked += 1
                held = judge_known(*found.given, paper.known)
                self.assertIsNotNone(used_by(*found.given, held, paper.trees, box))
        self.assertGreater(checked, 500)


if __name__ == "__main__":
    unittest.main()
