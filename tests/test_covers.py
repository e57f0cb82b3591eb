"""Knowing: known things that a plan asks for (points [56] and [57])."""

import copy
import unittest

from sureplace.judge.papers import Known, judge_known, root_at
from sureplace.judge.trees import Held
from sureplace.kinds.exclusion import excludes
from sureplace.motion.going import farther
from sureplace.numbers.boxes import cut, halves, is_small, widest
from sureplace.search.covers import Row, know
from sureplace.search.plans import Plan
from tests.helpers import a_question, a_reading, a_setting, dice, says_x
from tests.worlds import SOURCES, a_case

STILL = a_setting(speed=0, drift=0, per=1)
SLOW = a_setting(speed=1, drift=0, per=1)
LINE = ((0, 8), (0, 0), (0, 0))


def x_from(low, high):
    return ((low, high), (0, 0), (0, 0))


def a_plan(moments=(0,), *, grain=2, most=9, without=((),)):
    return Plan(moments, grain=grain, most=most, without=without)


class Rows(unittest.TestCase):
    READINGS = [(1, says_x("a", 3, 4)), (2, says_x("b", 0, 1))]

    def known(self, plan, *, setting=STILL, moment=0, readings=READINGS, root=LINE):
        return know(setting, a_question(moment, root), readings, plan)

    def test_nothing_is_asked_for(self):
        self.assertEqual(self.known(a_plan(())), ([], [], [Row((), [], [])]))
        self.assertEqual(self.known(a_plan((), without=())), ([], [], []))
        self.assertEqual(self.known(a_plan((1, 2), without=())), ([], [], []))

    def test_the_order_of_the_things(self):
        known, held, rows = self.known(a_plan((1, 3, 5, 7, 9), without=((), ("a",), ("b", "a"))), moment=5)
        self.assertEqual([thing.moment for thing in known], [1, 3, 5, 9, 7] * 3)
        self.assertEqual([thing.moment for thing in held], [1, 3, 5, 9, 7] * 3)
        self.assertEqual([row.names for row in rows], [(), ("a",), ("b", "a")])
        for at, row in enumerate(rows):
            self.assertEqual(row.before, [held[5 * at + 1], held[5 * at]])
            self.assertEqual(row.after, [held[5 * at + 4], held[5 * at + 3]])
        self.assertEqual([type(part) for part in (known, held, rows, rows[0].before, rows[0].after)], [list] * 5)

    def test_rows_on_one_side_only(self):
        _, held, rows = self.known(a_plan((1, 3)), moment=5)
        self.assertEqual((rows[0].before, rows[0].after), ([held[1], held[0]], []))
        _, held, rows = self.known(a_plan((6, 7)), moment=5)
        self.assertEqual([thing.moment for thing in held], [7, 6])
        self.assertEqual((rows[0].before, rows[0].after), ([], [held[1], held[0]]))
        _, held, rows = self.known(a_plan((5,)), moment=5)
        self.assertEqual((rows[0].before, rows[0].after, len(held)), ([], [], 1))

    def test_equality_of_rows(self):
        self.assertEqual(Row((), [], []), Row((), [], []))
        thing = Held(1, (), ())
        for other in (Row(("a",), [], []), Row((), [thing], []), Row((), [], [thing]), None, ((), [], [])):
            self.assertNotEqual(Row((), [], []), other)

    def test_each_uses_the_one_before_it_in_its_own_row(self):
        # Together the readings leave out everything at moment 0; carried on, they leave out nothing.
        readings = [(7, says_x("a", -9, 2)), (8, says_x("b", 6, 20))]
        plan = a_plan((0, 3, 5, 7, 9), grain=4, without=((), ("a",)))
        known, held, _ = self.known(plan, setting=SLOW, moment=5, readings=readings)
        self.assertEqual(known[:3], [Known(0, (), (("cut", 0, 4), ("reading", 8), ("reading", 7))),
                                     Known(3, (), (("known", 0),)), Known(5, (), (("known", 1),))])
        self.assertEqual(held[:3], [Held(0, (), ("b", "a")), Held(3, (), ("b", "a")), Held(5, (), ("b", "a"))])
        # The first ones of the other rows do not refer to what was before them.
        for place in (3, 5, 8):
            self.assertFalse([step for step in known[place].tree if step[0] == "known"], place)
        for place in (4, 6, 7, 9):
            self.assertTrue({step[1] for step in known[place].tree if step[0] == "known"} <= {place - 1}, place)


class Trees(unittest.TestCase):
    def made(self, readings, *, setting=STILL, root=LINE, moment=0, **more):
        known, held, _ = know(setting, a_question(moment, root), readings, a_plan(**more))
        self.assertEqual(held, judge_known(setting, a_question(moment, root), readings, known))
        return known[-1]

    def test_an_example(self):
        readings = [(5, says_x("a", 3, 4))]
        self.assertEqual(self.made(readings), Known(0, (x_from(2, 4), x_from(4, 6)), (
            ("cut", 0, 4), ("cut", 0, 2), ("reading", 5), ("kept", 0), ("cut", 0, 6), ("kept", 1), ("reading", 5))))

    def test_the_first_reading_that_excludes(self):
        readings = [(9, says_x("a", 0, 3)), (4, says_x("b", 20, 30)), (2, says_x("c", 20, 30)), (7, says_x("d", 9, 9))]
        self.assertEqual(self.made(readings).tree, (("reading", 4),))
        self.assertEqual(self.made(readings, without=(("b",),)).tree, (("reading", 2),))
        self.assertEqual(self.made(readings, without=(("c", "b"),)).tree, (("reading", 7),))
        self.assertEqual(self.made(readings, without=(("d", "c", "b"),)).tree[:3],
                         (("cut", 0, 4), ("cut", 0, 2), ("kept", 0)))
        # Of a reading the question does not ask.
        self.assertEqual(self.made([(1, says_x("a", 20, 30, moment=99))], grain=8).tree, (("kept", 0),))

    def test_at_the_moment_of_the_thing(self):
        readings = [(1, says_x("a", 12, 20, moment=3))]
        for moment, told in ((3, True), (2, True), (4, False), (6, False)):
            tree = self.made(readings, setting=SLOW, moment=0, moments=(moment,), grain=99).tree
            self.assertEqual(tree == (("reading", 1),), told, moment)

    def test_the_root_at_the_moment(self):
        self.assertEqual(self.made([], setting=SLOW, moments=(-3,), grain=99).cover, (((-3, 11), (-3, 3), (0, 0)),))
        self.assertEqual(self.made([], setting=SLOW, moments=(0,), grain=99).cover, (LINE,))

    def test_reading_before_known_before_kept(self):
        readings = [(7, says_x("a", -9, 2, moment=-3)), (8, says_x("b", 6, 20, moment=-3))]
        # The root at moment -3 is not small for the grain; at moment 0 it is.
        for grain in (8, 10, 13):
            thing = self.made(readings, setting=SLOW, moments=(-3, 0), grain=grain)
            self.assertEqual(thing, Known(0, (), (("known", 0),)), grain)
        thing = self.made(readings, setting=SLOW, moments=(0,), grain=10)
        self.assertEqual(thing, Known(0, (LINE,), (("kept", 0),)))
        readings.append((9, says_x("c", 90, 99)))
        self.assertEqual(self.made(readings, setting=SLOW, moments=(-3, 0), grain=10).tree, (("reading", 9),))
        self.assertEqual(self.made(readings, setting=SLOW, moments=(0,), grain=10).tree, (("reading", 9),))

    def test_farther_from_every_box_of_the_cover(self):
        readings = [(1, a_reading("a", -4, ("side", (1, 0)), low=0, high=1)),
                    (2, a_reading("b", -4, ("side", (0, 1)), low=0, high=1))]
        root = ((-8, 8), (-8, 8), (0, 0))
        known, held, _ = know(SLOW, a_question(0, root), readings, a_plan((-4, 0), grain=1, most=200))
        self.assertEqual(held[1].used, ("a", "b"))
        near = known[0].cover
        boxes = dict(zip(self.boxes(root, known[1].tree), known[1].tree))
        left_out = [box for box, step in boxes.items() if step == ("known", 0)]
        self.assertIn(((5, 6), (5, 6), (0, 0)), left_out)
        for box, step in boxes.items():
            far = all(farther(SLOW, 4, box, other) for other in near)
            self.assertEqual(step == ("known", 0), far and step[0] != "reading")

    def boxes(self, root, tree):
        """The boxes at hand in the steps of a tree."""
        waiting, found = [root], []
        for step in tree:
            box = waiting.pop()
            found.append(box)
            if step[0] == "cut":
                first, second = cut(box, step[1], step[2])
                waiting += [second, first]
        return found

    def test_the_grain_just_reached_and_just_passed(self):
        for grain, steps in ((8, 1), (9, 1), (7, 3), (4, 3), (3, 7), (2, 7), (1, 15)):
            self.assertEqual(len(self.made([], grain=grain).tree), steps, grain)

    def test_the_cover_has_most_boxes(self):
        kept = self.made([], grain=1, most=3)
        self.assertEqual(kept.tree, (("cut", 0, 4), ("cut", 0, 2), ("cut", 0, 1), ("kept", 0), ("kept", 1),
                                     ("cut", 0, 3), ("kept", 2), ("kept", 3), ("kept", 4)))
        self.assertEqual(kept.cover, (x_from(0, 1), x_from(1, 2), x_from(2, 3), x_from(3, 4), x_from(4, 8)))
        kept = self.made([], grain=1, most=1)
        self.assertEqual(kept.cover, (x_from(0, 1), x_from(1, 2), x_from(2, 4), x_from(4, 8)))

    def test_8_times_most_boxes_have_been_looked_at(self):
        readings = [(1, says_x("a", 250, 255))]
        thing = self.made(readings, root=x_from(0, 256), grain=1, most=1)
        # Looked at: the root, 0 to 128, 128 to 256, 128 to 192, 192 to 256, .., 224 to 240; then 240 to 256 is kept.
        self.assertEqual([step[0] for step in thing.tree], ["cut", "reading"] * 4 + ["kept"])
        self.assertEqual(thing.cover, (x_from(240, 256),))
        # A box that a reading leaves out is left out, however many were looked at.
        readings = [(1, says_x("a", 241, 242))]
        thing = self.made(readings, root=x_from(0, 512), grain=1, most=1)
        self.assertEqual([step[0] for step in thing.tree],
                         ["cut"] + ["cut", "reading"] * 4 + ["kept", "reading"])
        self.assertEqual(thing.cover, (x_from(240, 256),))
        self.assertEqual(self.made(readings, root=x_from(0, 512), grain=1, most=2).cover,
                         (x_from(240, 241), x_from(241, 242), x_from(242, 244)))

    def test_160_cuts_have_led_to_the_box(self):
        far = a_setting(speed=10 ** 12, drift=10 ** 12, per=1)
        thing = self.made([], setting=far, moment=0, moments=(10,), grain=1, most=40,
                          root=((0, 10 ** 12), (0, 10 ** 12), (0, 10 ** 12)))
        self.assertLess(thing.tree.index(("kept", 0)), 160)
        question = a_question(0, LINE, earliest=-10 ** 12, latest=10 ** 12)
        known, held, _ = know(far, question, [], a_plan((10 ** 12,), grain=1, most=40))
        tree = known[0].tree
        self.assertEqual([step[0] for step in tree[:161]], ["cut"] * 160 + ["kept"])
        self.assertFalse(is_small(known[0].cover[0], 1))
        # Of 320 boxes 161 were on the way; each of the next ones is the other part of the last cut, and so on.
        self.assertEqual([step[0] for step in tree[161:165]], ["kept", "cut", "kept", "kept"])
        self.assertEqual(judge_known(far, question, [], known), held)
        self.assertLessEqual(max(self.depths(tree)), 160)

    def depths(self, tree):
        """How many cuts lead to each box."""
        waiting, found = [0], []
        for step in tree:
            cuts = waiting.pop()
            found.append(cuts)
            if step[0] == "cut":
                waiting += [cuts + 1, cuts + 1]
        return found

    def test_what_is_given_stays_as_it_is(self):
        readings, plan = [(5, says_x("a", 3, 4)), (6, says_x("b", 3, 9))], a_plan((0, 1), without=((), ("a",)))
        before = copy.deepcopy([readings, plan])
        first = know(SLOW, a_question(0, LINE), readings, plan)
        second = know(SLOW, a_question(0, LINE), readings, plan)
        self.assertEqual(first, second)
        first[0].clear(), first[1].clear(), first[2][0].before.append(None)
        self.assertEqual(len(second[0]), 4)
        self.assertNotIn(None, second[2][0].before)
        self.assertEqual([readings, plan], before)


class ByHand:
    """Knowing, as the points tell it."""

    def __init__(self, setting, question, readings, plan):
        self.setting, self.question, self.plan = setting, question, plan
        self.asks = [(n, r) for n, r in readings if question.earliest <= r.moment <= question.latest]
        self.known = []
        self.rows = []
        for names in plan.without:
            early = [moment for moment in plan.moments if moment <= question.moment]
            late = [moment for moment in plan.moments if moment > question.moment][::-1]
            self.rows.append((names, self.row(names, early), self.row(names, late)))

    def row(self, names, moments):
        places = []
        for moment in moments:
            self.steps, self.cover = [], []
            self.names, self.moment, self.last = names, moment, places[-1] if places else None
            self.look(root_at(self.setting, self.question, moment), 0)
            places.append(len(self.known))
            self.known.append(Known(moment, tuple(self.cover), tuple(self.steps)))
        return places

    def look(self, box, cuts):
        for number, reading in self.asks:
            if reading.source not in self.names and excludes(self.setting, reading, self.moment, box):
                self.steps.append(("reading", number))
                return
        if self.last is not None:
            ticks = abs(self.known[self.last].moment - self.moment)
            if all(farther(self.setting, ticks, box, other) for other in self.known[self.last].cover):
                self.steps.append(("known", self.last))
                return
        looked, most = len(self.steps), self.plan.most
        if (is_small(box, self.plan.grain) or len(self.cover) >= most or cuts >= 160 or looked >= 8 * most
                or halves(box) is None):
            self.steps.append(("kept", len(self.cover)))
            self.cover.append(box)
            return
        axis = widest(box)
        low, high = box[axis]
        self.steps.append(("cut", axis, (low + high) // 2))
        for part in halves(box):
            self.look(part, cuts + 1)


class AnyCases(unittest.TestCase):
    def test_they_are_the_same_as_by_hand_and_right(self):
        chance, steps = dice(101), {"cut": 0, "reading": 0, "known": 0, "kept": 0}
        for _ in range(120):
            setting, question, readings, here = a_case(chance, dims=chance.choice((2, 2, 3)))
            moments = tuple(sorted(chance.sample(range(-1, 10), chance.randint(0, 5))))
            without = tuple(tuple(chance.sample(SOURCES, chance.randint(0, 2))) for _ in range(chance.randint(0, 3)))
            plan = Plan(moments, grain=chance.randint(1, 9), most=chance.randint(1, 20), without=without)
            known, held, rows = know(setting, question, readings, plan)
            due = ByHand(setting, question, readings, plan)
            self.assertEqual(known, due.known)
            self.assertEqual(held, judge_known(setting, question, readings, known))
            self.assertEqual(len(rows), len(due.rows))
            for row, (names, up_to, after) in zip(rows, due.rows):
                before = [held[place] for place in up_to[::-1] if held[place].moment < question.moment]
                self.assertEqual((row.names, row.before), (names, before))
                self.assertEqual(row.after, [held[place] for place in after[::-1]])
            for thing in known:
                for step in thing.tree:
                    steps[step[0]] += 1
        self.assertGreater(min(steps.values()), 40, steps)


if __name__ == "__main__":
    unittest.main()
