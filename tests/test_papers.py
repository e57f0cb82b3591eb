"""Known things, papers, and their judge (points [27] and [31] to [35])."""

import copy
import unittest

from sureplace.judge.blame import blames_right
from sureplace.judge.papers import Known, Paper, judge_known, judge_paper, root_at, used_by
from sureplace.judge.trees import Held, judge_tree
from sureplace.motion.going import widened
from sureplace.search.plans import Plan
from sureplace.search.searching import search
from tests.helpers import a_question, a_reading, a_setting, dice, says_x
from tests.worlds import SOURCES, a_case, holds

STILL = a_setting(speed=0, drift=0, per=1)
SLOW = a_setting(speed=1, drift=0, per=1)
ROOT = ((0, 8), (0, 8), (0, 0))
KEEP = (("kept", 0),)


def x_from(low, high):
    return ((low, high), (0, 8), (0, 0))


class Fields(unittest.TestCase):
    def test_known(self):
        thing = Known(3, (ROOT,), KEEP)
        self.assertEqual((thing.moment, thing.cover, thing.tree), (3, (ROOT,), KEEP))
        self.assertEqual(thing, Known(moment=3, cover=(ROOT,), tree=KEEP))
        for other in (Known(4, (ROOT,), KEEP), Known(3, (), KEEP), Known(3, (ROOT,), ())):
            self.assertNotEqual(thing, other)
        for other in (3, "a", None, (3, (ROOT,), KEEP), Held(3, (ROOT,), KEEP)):
            self.assertIs(thing == other, False)
            self.assertIs(thing != other, True)

    def test_paper(self):
        things, trees, steps = (Known(3, (ROOT,), KEEP),), (KEEP,), ((0, ()),)
        paper = Paper(things, trees, steps)
        self.assertEqual((paper.known, paper.trees, paper.steps), (things, trees, steps))
        self.assertEqual(paper, Paper(known=(Known(3, (ROOT,), KEEP),), trees=trees, steps=steps))
        for other in (Paper((), trees, steps), Paper(things, (), steps), Paper(things, trees, ())):
            self.assertNotEqual(paper, other)
        for other in (3, None, (things, trees, steps), Known(things, trees, steps)):
            self.assertIs(paper == other, False)
            self.assertIs(paper != other, True)


class RootAt(unittest.TestCase):
    def test_it_is_widened_before_and_after(self):
        setting = a_setting(speed=3, drift=1, per=2)
        question = a_question(5, ROOT)
        self.assertEqual(root_at(setting, question, 5), ROOT)
        for moment in (4, 6):
            self.assertEqual(root_at(setting, question, moment), ((-2, 10), (-2, 10), (-1, 1)))
        for moment in (2, 8):
            self.assertEqual(root_at(setting, question, moment), ((-5, 13), (-5, 13), (-2, 2)))
        for moment in (-40, 0, 77):
            self.assertEqual(root_at(setting, question, moment), widened(setting, abs(moment - 5), ROOT))


class JudgeKnown(unittest.TestCase):
    def judged(self, *known, readings=(), question=None, setting=STILL):
        return judge_known(setting, question or a_question(0, ROOT), list(readings), list(known))

    def test_no_things(self):
        self.assertEqual(self.judged(), [])
        self.assertEqual(judge_known(STILL, a_question(0, ROOT), [], ()), [])

    def test_a_thing_that_is_right(self):
        readings = [(1, says_x("b", 5, 9)), (2, says_x("a", 3, 9))]
        tree = (("cut", 0, 4), ("reading", 1), ("cut", 0, 6), ("kept", 1), ("kept", 0))
        thing = Known(0, (x_from(6, 8), x_from(4, 6)), tree)
        self.assertEqual(self.judged(thing, readings=readings), [Held(0, thing.cover, ("b",))])
        self.assertIs(type(self.judged(thing, readings=readings)), list)
        # The places of the kept boxes are those of the cover; and all of the root is looked at.
        swapped = Known(0, (x_from(4, 6), x_from(6, 8)), tree)
        self.assertIsNone(self.judged(swapped, readings=readings))
        self.assertIsNone(self.judged(Known(0, (x_from(0, 7),), KEEP)))
        self.assertEqual(self.judged(Known(0, (x_from(-1, 8),), KEEP)), [Held(0, (x_from(-1, 8),), ())])

    def test_a_thing_without_boxes(self):
        readings = [(1, says_x("a", 9, 20))]
        thing = Known(0, (), (("reading", 1),))
        self.assertEqual(self.judged(thing, readings=readings), [Held(0, (), ("a",))])
        self.assertIsNone(self.judged(Known(0, (), KEEP), readings=readings))

    def test_it_is_judged_for_the_root_at_its_moment(self):
        for moment in (-3, 3):
            fits = Known(moment, (((-3, 11), (-3, 11), (0, 0)),), KEEP)
            self.assertEqual(len(self.judged(fits, setting=SLOW)), 1)
            for side in ((-2, 11), (-3, 10)):
                self.assertIsNone(self.judged(Known(moment, ((side, (-3, 11), (0, 0)),), KEEP), setting=SLOW))
        # The reading excludes the root of all moments up to its own one, but not those of later moments.
        readings = [(1, says_x("a", 12, 20, moment=3))]
        for moment, told in ((0, True), (2, True), (3, True), (4, False), (6, False)):
            held = self.judged(Known(moment, (), (("reading", 1),)), readings=readings, setting=SLOW)
            self.assertEqual(held is not None, told)

    def test_each_with_those_before_it(self):
        readings = [(1, says_x("a", 9, 20)), (2, says_x("b", -9, -1))]
        empty = [Known(0, (), (("reading", number),)) for number in (1, 2)]
        by_known = [Known(9, (), (("known", place),)) for place in range(4)]
        held = self.judged(*empty, by_known[1], by_known[2], readings=readings)
        self.assertEqual([thing.used for thing in held], [("a",), ("b",), ("b",), ("b",)])
        for place, told in ((0, True), (1, True), (2, False), (3, False)):
            held = self.judged(*empty, by_known[place], empty[0], readings=readings)
            self.assertEqual(held is not None, told, place)
        self.assertIsNone(self.judged(by_known[0], empty[0], readings=readings))
        self.assertIsNone(self.judged(by_known[1], empty[0], readings=readings))

    def test_one_that_is_not_right_makes_the_list_wrong(self):
        right, wrong = Known(0, (ROOT,), KEEP), Known(0, (ROOT,), ())
        self.assertEqual(len(self.judged(right, right)), 2)
        for known in ((wrong,), (wrong, right), (right, wrong), (right, wrong, right)):
            self.assertIsNone(self.judged(*known))

    def test_it_rests_on_the_sources_of_its_tree_each_once(self):
        readings = [(1, says_x("b", 9, 20)), (2, says_x("a", 9, 20)), (3, says_x("b", 30, 31))]
        first = Known(0, (), (("cut", 0, 4), ("reading", 2), ("cut", 0, 6), ("reading", 1), ("reading", 3)))
        second = Known(0, (ROOT,), (("cut", 1, 4), ("reading", 1), ("known", 0)))
        held = self.judged(first, second, readings=readings)
        self.assertEqual([thing.used for thing in held], [("a", "b"), ("b", "a")])
        self.assertEqual([thing.cover for thing in held], [(), (ROOT,)])

    def test_readings_that_the_question_does_not_ask_of(self):
        thing = Known(0, (), (("reading", 1),))
        for moment, told in ((-1, False), (0, True), (4, True), (5, False)):
            question = a_question(0, ROOT, earliest=0, latest=4)
            held = self.judged(thing, readings=[(1, says_x("a", 9, 20, moment))], question=question)
            self.assertEqual(held is not None, told, moment)

    def test_what_is_given_stays_as_it_is(self):
        readings = [(1, says_x("b", 9, 20)), (2, says_x("a", 9, 20, 77))]
        known = [Known(0, (), (("reading", 1),)), Known(1, (), (("known", 0),))]
        before = copy.deepcopy([readings, known])
        held = judge_known(STILL, a_question(0, ROOT), readings, known)
        other = judge_known(STILL, a_question(0, ROOT), readings, tuple(known))
        self.assertEqual(held, other)
        held.append(None)
        self.assertEqual(len(other), 2)
        self.assertEqual([readings, known], before)


class UsedBy(unittest.TestCase):
    READINGS = [(1, says_x("a", 9, 20)), (2, says_x("b", 4, 9)), (3, says_x("c", 90, 99, moment=50))]
    HELD = [Held(0, (x_from(9, 9),), ("d", "a")), Held(3, (x_from(0, 0),), ("e",))]

    def used(self, *trees, box=ROOT, question=None, held=None):
        question = question or a_question(0, ROOT)
        return used_by(STILL, question, self.READINGS, self.HELD if held is None else held, list(trees), box)

    def test_each_tree(self):
        trees = ((("reading", 1),), (("reading", 2),), (("cut", 0, 3), ("reading", 2), ("reading", 1)), (),
                 (("known", 0),), (("known", 1),), (("known", 2),))
        self.assertEqual(self.used(*trees), [("a",), None, ("b", "a"), None, ("d", "a"), None, None])
        self.assertEqual(self.used(*trees, box=x_from(1, 3)),
                         [("a",), ("b",), None, None, ("d", "a"), ("e",), None])
        self.assertEqual(self.used(), [])
        self.assertEqual(self.used(trees[4], held=[]), [None])
        self.assertIs(type(self.used(*trees)), list)
        self.assertEqual(used_by(STILL, a_question(0, ROOT), self.READINGS, tuple(self.HELD), trees, ROOT),
                         self.used(*trees))

    def test_there_are_no_kept_boxes(self):
        self.assertEqual(self.used(KEEP, (("cut", 0, 3), ("reading", 2), ("kept", 0))), [None, None])

    def test_at_the_moment_of_the_question(self):
        readings = [(1, says_x("a", 10, 20, moment=5))]
        for moment, told in ((5, ("a",)), (6, ("a",)), (7, None), (4, ("a",)), (3, None)):
            question = a_question(moment, ROOT)
            self.assertEqual(used_by(SLOW, question, readings, [], [(("reading", 1),)], ROOT), [told], moment)

    def test_readings_that_the_question_does_not_ask_of(self):
        self.assertEqual(self.used((("reading", 3),)), [None])
        self.assertEqual(self.used((("reading", 3),), question=a_question(0, ROOT, latest=50)), [("c",)])

    def test_what_is_given_stays_as_it_is(self):
        given = [self.READINGS, self.HELD, [(("reading", 1),), (("known", 0),), ()]]
        before = copy.deepcopy(given)
        used_by(STILL, a_question(0, ROOT), given[0], given[1], given[2], ROOT)
        self.assertEqual(given, before)


class JudgePaper(unittest.TestCase):
    READINGS = [(1, says_x("a", 9, 20)), (2, says_x("b", -9, -1)), (3, says_x("c", 12, 20, moment=4)),
                (4, says_x("d", 9, 20, moment=50))]
    TREES = ((("reading", 1),), (("reading", 2),), (("known", 0),), ())
    KNOWN = (Known(4, (), (("reading", 3),)),)

    def accepted(self, steps, *, known=KNOWN, trees=TREES, box=ROOT, liars=0, honest=(), setting=STILL):
        paper = Paper(known, trees, steps)
        told = judge_paper(setting, a_question(0, ROOT, liars=liars), self.READINGS, paper, box, honest=honest)
        self.assertIs(type(told), bool)
        return told

    def test_nobody_lies(self):
        for tree, told in ((0, True), (1, True), (2, True), (3, False), (4, False), (-1, False)):
            self.assertIs(self.accepted(((tree, ()),)), told, tree)
        self.assertIs(self.accepted(()), False)

    def test_some_lie(self):
        self.assertIs(self.accepted(((0, (1,)), (1, ())), liars=1), True)
        self.assertIs(self.accepted(((0, (1,)), (0, ())), liars=1), False)
        self.assertIs(self.accepted(((0, (1,)), (1, ())), liars=0), False)
        self.assertIs(self.accepted(((0, ()),), liars=1), False)
        self.assertIs(self.accepted(((2, (1,)), (0, (2,)), (1, ())), liars=2), True)
        # Tree 2 rests on "c", by what is known.
        self.assertIs(self.accepted(((2, (1,)), (2, ())), liars=1), False)

    def test_the_honest(self):
        self.assertIs(self.accepted(((0, ()),), liars=1, honest=("a",)), True)
        self.assertIs(self.accepted(((0, ()),), liars=1, honest=("b",)), False)
        self.assertIs(self.accepted(((2, ()),), liars=3, honest=("b", "c")), True)

    def test_known_things_must_be_right_even_if_no_tree_names_them(self):
        wrong = (Known(4, (), (("reading", 2), ("reading", 2))),)
        self.assertIs(self.accepted(((0, ()),), known=wrong), False)
        self.assertIs(self.accepted(((0, ()),), known=self.KNOWN + wrong), False)
        self.assertIs(self.accepted(((0, ()),), known=()), True)
        self.assertIs(self.accepted(((2, ()),), known=()), False)
        # A reading of which the question does not ask.
        self.assertIs(self.accepted(((0, ()),), known=(Known(50, (), (("reading", 4),)),)), False)

    def test_a_tree_that_shows_nothing_and_is_not_named(self):
        self.assertIs(self.accepted(((1, ()),), trees=((), (("reading", 1),))), True)
        self.assertIs(self.accepted(((0, ()),), trees=((), (("reading", 1),))), False)

    def test_a_step_to_which_no_way_leads_may_be_anything(self):
        for step in ((3, ()), (99, (5,)), (-1, (-1, 0)), (0, (0,))):
            self.assertIs(self.accepted(((0, ()), step)), True, step)
            self.assertIs(self.accepted(((0, (2,)), step, (1, ())), liars=1), True, step)
            self.assertIs(self.accepted((step, (0, ()))), False, step)

    def test_trees_have_no_kept_boxes(self):
        self.assertIs(self.accepted(((0, ()),), known=(Known(0, (ROOT,), KEEP),), trees=(KEEP,)), False)

    def test_the_box(self):
        # Reading 1 excludes all places up to 8.
        for high, told in ((8, True), (9, False)):
            self.assertIs(self.accepted(((0, ()),), box=x_from(0, high)), told)
        # The box need not be part of the root.
        self.assertIs(self.accepted(((0, ()),), box=x_from(-99, -90)), True)

    def test_all_known_things_can_be_used_by_trees(self):
        known = self.KNOWN + (Known(0, (x_from(20, 30),), (("known", 0),)),)
        self.assertIs(self.accepted(((0, ()),), known=known, trees=((("known", 1),),)), True)
        self.assertIs(self.accepted(((0, ()),), known=known, trees=((("known", 2),),)), False)

    def test_what_is_given_stays_as_it_is(self):
        given = [list(self.READINGS), Paper(self.KNOWN, self.TREES, ((0, (1,)), (1, ()))), ROOT]
        before = copy.deepcopy(given)
        judge_paper(STILL, a_question(0, ROOT), given[0], given[1], ROOT)
        self.assertEqual(given, before)


def by_hand(setting, question, readings, paper, box, honest=()):
    """Is the paper accepted? Directly as the points say it."""
    asks = [(n, r) for n, r in readings if question.earliest <= r.moment <= question.latest]
    held = []
    for thing in paper.known:
        root = widened(setting, abs(thing.moment - question.moment), question.root)
        used = judge_tree(setting, asks, held, thing.cover, thing.moment, thing.tree, root)
        if used is None:
            return False
        held.append(Held(thing.moment, thing.cover, used))
    used = [judge_tree(setting, asks, held, (), question.moment, tree, box) for tree in paper.trees]
    return blames_right(used, paper.steps, honest=honest, liars=question.liars)


class FoundPapers(unittest.TestCase):
    """Papers of a search, in cases in which the world is known."""

    def some(self, seed, many):
        """Papers that are accepted: (chance, case, paper, cell)."""
        chance = dice(seed)
        for _ in range(many):
            case = a_case(chance, share=6)
            setting, question, readings, here = case
            plan = Plan((2, 4, 6), grain=8, most=4, without=((), chance.sample(SOURCES, 1)))
            found = search(setting, question, readings, plan, 60)
            outs = [told for told in found if told.verdict == "out"]
            for told in chance.sample(outs, min(4, len(outs))):
                yield chance, case, Paper(found.known, told.trees, told.steps), told.box

    def test_they_are_accepted_and_the_world_is_not_there(self):
        many, honest = 0, 0
        for _, (setting, question, readings, here), paper, box in self.some(61, 60):
            self.assertIs(judge_paper(setting, question, readings, paper, box), True)
            self.assertIs(by_hand(setting, question, readings, paper, box), True)
            self.assertFalse(holds(box, here))
            many += 1
            honest += question.liars == 0
        self.assertGreater(many, 60)
        self.assertGreater(many - honest, 20)

    def test_papers_that_are_changed_are_judged_the_same_as_by_hand(self):
        right, wrong = 0, 0
        for chance, (setting, question, readings, here), paper, box in self.some(62, 60):
            trees, steps, known = list(paper.trees), list(paper.steps), list(paper.known)
            what = chance.randrange(6)
            if what == 0:
                trees[chance.randrange(len(trees))] = chance.choice(trees)
            elif what == 1:
                at = chance.randrange(len(steps))
                steps[at] = (chance.randint(0, len(trees)), steps[at][1])
            elif what == 2:
                del known[chance.randrange(len(known))]
            elif what == 3:
                at = chance.randrange(len(known))
                known[at] = Known(known[at].moment + 1, known[at].cover, known[at].tree)
            elif what == 4:
                box = tuple((low - chance.randint(0, 3), high + chance.randint(0, 3)) for low, high in box)
            changed = Paper(tuple(known), tuple(trees), tuple(steps))
            honest = tuple(chance.sample(SOURCES, 1)) if what == 5 else ()
            due = by_hand(setting, question, readings, changed, box, honest)
            self.assertIs(judge_paper(setting, question, readings, changed, box, honest=honest), due)
            if due and not honest:
                self.assertFalse(holds(box, here))
            right, wrong = right + due, wrong + (not due)
        self.assertGreater(min(right, wrong), 20)

    def test_they_stay_accepted_if_more_is_said(self):
        for chance, (setting, question, readings, _), paper, box in self.some(63, 40):
            more = list(readings)
            for _ in range(3):
                at = chance.randrange(len(more))
                number, old = more[at]
                low = chance.randint(old.low, old.high)
                more[at] = (number, a_reading(old.source, old.moment, old.kind, low=low,
                                              high=chance.randint(low, old.high), late=chance.randint(0, old.late),
                                              near=chance.randint(0, old.near)))
            more.insert(chance.randrange(len(more)), (1000, a_reading("new", 4, low=99, high=99)))
            self.assertIs(judge_paper(setting, question, more, paper, box), True)


if __name__ == "__main__":
    unittest.main()
