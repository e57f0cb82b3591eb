"""Searching (points [58] to [64])."""

import copy
import unittest

from sureplace.errors import InvalidPlan
from sureplace.judge.papers import Known, judge_known, used_by
from sureplace.judge.trees import Held
from sureplace.kinds.exclusion import excludes
from sureplace.liars.meetings import make_steps
from sureplace.motion.going import farther
from sureplace.numbers.boxes import halves, is_small, middle
from sureplace.search.covers import Row, know
from sureplace.search.plans import Plan
from sureplace.search.searching import Found, Told, search
from sureplace.search.trying import tried
from sureplace.witness.judging import judge_witness
from sureplace.witness.ways import Witness
from tests.helpers import a_question, a_setting, dice, raised, says_x
from tests.promises import check_found
from tests.worlds import SOURCES, a_case, make_up

STILL = a_setting(speed=0, drift=0, per=1)
SLOW = a_setting(speed=1, drift=0, per=1)
LINE = ((0, 8), (0, 0), (0, 0))
NO_PLAN = Plan((), grain=1, most=1, without=())


def x_from(low, high):
    return ((low, high), (0, 0), (0, 0))


class Fields(unittest.TestCase):
    def test_told(self):
        told = Told("01", LINE, "open")
        self.assertEqual((told.cell, told.box, told.verdict, told.trees, told.steps, told.witness, told.names),
                         ("01", LINE, "open", (), (), None, ()))
        witness = Witness((), ((0, 0, 0, 0),))
        fields = {"trees": ((("reading", 1),),), "steps": ((0, ()),), "witness": witness, "names": ("a",)}
        told = Told(cell="", box=LINE, verdict="out", **fields)
        self.assertEqual((told.trees, told.steps, told.witness, told.names), tuple(fields.values()))
        self.assertEqual(told, Told("", LINE, "out", **fields))
        for other in (Told("0", LINE, "out", **fields), Told("", x_from(0, 1), "out", **fields),
                      Told("", LINE, "in", **fields), Told("", LINE, "out", **{**fields, "trees": ()}),
                      Told("", LINE, "out", **{**fields, "steps": ()}),
                      Told("", LINE, "out", **{**fields, "witness": None}),
                      Told("", LINE, "out", **{**fields, "names": ()}), None, "", ("", LINE, "out")):
            self.assertIs(told == other, False)
            self.assertIs(told != other, True)

    def test_found(self):
        told = [Told("0", LINE, "in"), Told("1", LINE, "stuck")]
        known, left = (Known(0, (LINE,), (("kept", 0),)),), [("1", LINE)]
        found = Found(known, told, left)
        self.assertEqual((found.known, found.told, found.left), (known, told, left))
        self.assertEqual(list(found), told)
        self.assertEqual([one.cell for one in found], ["0", "1"])
        self.assertEqual(found, Found(known, list(told), list(left)))
        for other in (Found((), told, left), Found(known, [], left), Found(known, told, []), None, told):
            self.assertIs(found == other, False)
            self.assertIs(found != other, True)


class Plans(unittest.TestCase):
    def test_moments_out_of_the_span(self):
        question = a_question(50, LINE, earliest=3, latest=7)
        for moments, told in (((3, 7), None), ((), None), ((2,), InvalidPlan), ((8,), InvalidPlan),
                              ((3, 5, 8), InvalidPlan), ((2, 3), InvalidPlan), ((50,), InvalidPlan)):
            plan = Plan(moments, grain=1, most=1, without=((),))
            for steps in (0, 3):
                self.assertIs(raised(search, STILL, question, [], plan, steps), told, moments)
            # Also if there are no tuples.
            plan = Plan(moments, grain=1, most=1, without=())
            self.assertIs(raised(search, STILL, question, [], plan, 0), told, moments)


class Steps(unittest.TestCase):
    READINGS = [(5, says_x("a", 3, 4)), (7, says_x("b", 3, 4))]

    def found(self, steps, *, readings=READINGS, liars=0, share=1, plan=NO_PLAN, root=LINE, setting=STILL, **more):
        question = a_question(0, root, liars=liars, share=share, **more)
        return search(setting, question, readings, plan, steps)

    def test_no_steps(self):
        found = self.found(0)
        self.assertEqual((found.known, found.told, found.left), ((), [], [("", LINE)]))
        self.assertIs(type(found.known), tuple)
        plan = Plan((0, 1), grain=9, most=1, without=((), ("a",)))
        found = self.found(0, plan=plan)
        self.assertEqual(found.known, tuple(know(STILL, a_question(0, LINE), self.READINGS, plan)[0]))

    def test_each_step_takes_the_first_cell_that_is_left(self):
        self.assertEqual(self.found(1).left, [("0", x_from(0, 4)), ("1", x_from(4, 8))])
        self.assertEqual([cell for cell, _ in self.found(2).left], ["1", "00", "01"])
        self.assertEqual([cell for cell, _ in self.found(3).left], ["00", "01", "10", "11"])
        self.assertEqual([told.cell for told in self.found(3)], [])
        found = self.found(4)
        self.assertEqual(found.told, [Told("00", x_from(0, 2), "out", trees=((("reading", 5),), (("reading", 7),)),
                                           steps=((0, ()),))])
        self.assertEqual([cell for cell, _ in found.left], ["01", "10", "11"])
        found = self.found(99)
        self.assertEqual([(told.cell, told.verdict) for told in found],
                         [("00", "out"), ("11", "out"), ("010", "in"), ("011", "in"), ("100", "in"), ("101", "out")])
        self.assertEqual(found.left, [])
        self.assertEqual(self.found(10 ** 30), found)

    def test_trees_of_readings_and_then_of_known_things(self):
        readings = [(9, says_x("a", 30, 40)), (2, says_x("b", 0, 3)), (4, says_x("c", -9, -5)),
                    (6, says_x("d", 30, 40, moment=99))]
        plan = Plan((0,), grain=1, most=9, without=(("a", "b"), ("c",), ("a", "c", "b"), ()))
        found = self.found(1, readings=readings, liars=1, plan=plan)
        # The first two things and the last one have no boxes; the third one is the root.
        self.assertEqual(found.told, [Told("", LINE, "out", trees=(
            (("reading", 9),), (("reading", 4),), (("known", 0),), (("known", 1),), (("known", 3),)),
            steps=((0, (1,)), (1, ())))])

    def test_a_known_thing_from_all_of_whose_boxes_it_is_farther(self):
        # What is known at moment -3 is stronger than each of the readings at moment 0.
        readings = [(1, says_x("a", -9, 2, moment=-3)), (2, says_x("b", 6, 20, moment=-3))]
        plan = Plan((-3,), grain=8, most=9, without=((),))
        for liars, told in ((0, ["out"]), (1, [])):
            found = self.found(1, readings=readings, plan=plan, setting=SLOW, liars=liars)
            self.assertEqual([one.verdict for one in found], told)
        found = self.found(1, readings=readings, plan=plan, setting=SLOW)
        self.assertEqual(found.told, [Told("", LINE, "out", trees=((("known", 0),),), steps=((0, ()),))])

    def test_the_number_of_liars(self):
        readings = [(1, says_x("a", 30, 40)), (2, says_x("a", 50, 60)), (3, says_x("b", 30, 40))]
        for liars, told in ((0, ((0, ()),)), (1, ((0, (1,)), (2, ()))), (2, None)):
            found = self.found(1, readings=readings, liars=liars)
            self.assertEqual([one.steps for one in found], [told] if told else [])

    def test_a_cell_is_cut_unless_it_is_small(self):
        for share, told in ((8, ["in"]), (9, ["in"]), (7, []), (1, [])):
            found = self.found(1, readings=[], share=share)
            self.assertEqual([one.verdict for one in found], told, share)
        # The clock counts, too.
        root = ((0, 1), (0, 1), (0, 4))
        self.assertEqual(self.found(1, readings=[], share=2, root=root).left,
                         [("0", ((0, 1), (0, 1), (0, 2))), ("1", ((0, 1), (0, 1), (2, 4)))])

    def test_in_and_stuck(self):
        readings = [(1, says_x("a", 30, 40)), (2, says_x("b", 30, 40))]
        found = self.found(1, readings=readings, liars=2, share=8)
        self.assertEqual(found.told, [Told("", LINE, "in", witness=Witness(("a", "b"), ((0, 4, 0, 0),)))])
        # Carried on for a tick the reading excludes nothing, but the way rests at 4 and does not keep it.
        fast = a_setting(speed=95, drift=0, per=1)
        readings = [(3, says_x("c", 100, 100, moment=1))]
        found = self.found(1, readings=readings, liars=0, share=8, setting=fast)
        self.assertEqual(found.told, [Told("", LINE, "stuck", names=())])
        readings.append((4, says_x("b", 60, 70)))
        found = self.found(1, readings=readings, liars=1, share=8, setting=fast)
        self.assertEqual(found.told, [Told("", LINE, "stuck", names=("b",))])


class Trying(unittest.TestCase):
    """Which witness is tried (point [59])."""

    SETTING = a_setting(speed=2, drift=0, per=1)

    def witness(self, readings, plan, *, liars=1, root=LINE, moment=0):
        question = a_question(moment, root, liars=liars, share=8)
        found = search(self.SETTING, question, readings, plan, 1)
        self.assertEqual([told.verdict for told in found], ["in"])
        return found.told[0].witness

    def test_without_moments_only_the_cell(self):
        for without in ((), ((),), (("a",), ())):
            plan = Plan((), grain=4, most=9, without=without)
            self.assertEqual(self.witness([], plan), Witness((), ((0, 4, 0, 0),)))

    def test_without_a_tuple_only_the_cell(self):
        readings = [(1, says_x("a", 90, 99)), (2, says_x("b", 0, 8))]
        for without in (((),), (("b",), ("a", "b")), ()):
            plan = Plan((-2, 2), grain=9, most=9, without=without)
            self.assertEqual(self.witness(readings, plan), Witness(("a",), ((0, 4, 0, 0),)), without)

    def test_the_first_tuple_with_exactly_these_names_of_sources(self):
        readings = [(1, says_x("a", 90, 99)), (2, says_x("b", 0, 8)), (3, says_x("c", 0, 99, moment=99))]
        # "c" and "z" are no sources of readings of which the question asks.
        for without in (((), ("z", "a"), ("a",)), (("b",), ("a", "c")), (("a", "a"), ("a",)), (("c", "z", "a"),)):
            plan = Plan((-2, 2), grain=16, most=9, without=without)
            points = ((-2, 4, 0, 0), (0, 4, 0, 0), (2, 4, 0, 0))
            self.assertEqual(self.witness(readings, plan), Witness(("a",), points), without)
        # The things of the first such tuple are taken. Those of "a", "x" come before those of "a".
        plan = Plan((-2,), grain=16, most=9, without=(("a", "x"), ("a",)))
        self.assertEqual(len(self.witness(readings, plan).points), 2)

    def test_boxes_one_after_the_other(self):
        # Each cover is made of the boxes 0 to 4 and 4 to 8, and so on; the first one that is near is taken.
        plan = Plan((-4, -1, 0, 1, 3), grain=4, most=99, without=((),))
        readings = [(1, says_x("a", 5, 6, moment=-4)), (2, says_x("a", 3, 4, moment=3))]
        known, held, rows = know(self.SETTING, a_question(0, LINE, share=8), readings, plan)
        witness = self.witness(readings, plan)
        self.assertEqual([point[0] for point in witness.points], [-4, -1, 0, 1, 3])
        self.assertEqual(witness, witness_by_hand(self.SETTING, a_question(0, LINE, liars=1, share=8), readings, plan,
                                                  held, (), LINE))

    def test_a_thing_without_such_a_box_is_passed_over(self):
        def held(moment, *sides):
            return Held(moment, tuple(x_from(low, high) for low, high in sides), ())

        question = a_question(0, LINE, share=8)
        # From the cell 0 to 8 one goes 2 in each tick; from the box 10 to 12 one does not come to -4, but to 15.
        before = [held(-1, (11, 12), (10, 12), (9, 9)), held(-3, (-4, -4), (17, 18)), held(-4), held(-5, (14, 15))]
        after = [held(2, (13, 20), (-13, -5)), held(3, (-4, 0))]
        for rows in ([Row(("x",), before, after)], [Row(("a",), [], []), Row((), before, after)]):
            names, sources = ((), ["a"]) if len(rows) == 2 else ((), ["a", "b"])
            witness = tried(self.SETTING, question, rows, sources, names, LINE)
            self.assertEqual(witness, Witness((), (
                (-5, 14, 0, 0), (-1, 11, 0, 0), (0, 4, 0, 0), (3, -2, 0, 0))))
        witness = tried(self.SETTING, question, [Row(("a",), before, after)], ["a"], (), LINE)
        self.assertEqual(witness, Witness((), ((0, 4, 0, 0),)))


def witness_by_hand(setting, question, readings, plan, held, names, box):
    """The witness that is tried, as point [59] tells it."""
    sources = {r.source for _, r in readings if question.earliest <= r.moment <= question.latest}
    points = [(question.moment,) + middle(box)]
    fitting = [at for at, without in enumerate(plan.without) if set(without) & sources == set(names)]
    if fitting:
        at = fitting[0] * len(plan.moments)
        own = held[at:at + len(plan.moments)]
        before = sorted([thing for thing in own if thing.moment < question.moment], key=lambda thing: -thing.moment)
        after = sorted([thing for thing in own if thing.moment > question.moment], key=lambda thing: thing.moment)
        for things in (before, after):
            last = (question.moment, box)
            for thing in things:
                ticks = abs(thing.moment - last[0])
                near = [other for other in thing.cover if not farther(setting, ticks, other, last[1])]
                if near:
                    last = (thing.moment, near[0])
                    points.append((thing.moment,) + middle(near[0]))
    return Witness(tuple(names), tuple(sorted(points)))


def by_hand(setting, question, readings, plan, steps):
    """A search, as the points tell it: what is told and what is left."""
    asks = [(n, r) for n, r in readings if question.earliest <= r.moment <= question.latest]
    known = know(setting, question, readings, plan)[0]
    held = judge_known(setting, question, readings, known)
    left, told = [("", question.root)], []
    for _ in range(steps):
        if not left:
            break
        address, box = left.pop(0)
        trees = [(("reading", n),) for n, r in asks if excludes(setting, r, question.moment, box)]
        for at, thing in enumerate(held):
            ticks = abs(thing.moment - question.moment)
            if all(farther(setting, ticks, box, other) for other in thing.cover):
                trees.append((("known", at),))
        used = used_by(setting, question, readings, held, trees, box)
        word, made = make_steps(used, liars=question.liars)
        if word == "steps":
            told.append(Told(address, box, "out", trees=tuple(trees), steps=made))
        elif not is_small(box, question.share) and halves(box):
            left += [(address + sign, part) for sign, part in zip("01", halves(box))]
        else:
            witness = witness_by_hand(setting, question, readings, plan, held, made, box)
            if judge_witness(setting, question, readings, witness, box):
                told.append(Told(address, box, "in", witness=witness))
            else:
                told.append(Told(address, box, "stuck", names=made))
    return told, left


def a_plan(chance, question):
    span = range(question.earliest, question.latest + 1)
    moments = tuple(sorted(chance.sample(span, chance.randint(0, min(4, len(span))))))
    without = tuple(tuple(chance.sample(SOURCES, chance.randint(0, 2))) for _ in range(chance.randint(0, 3)))
    return Plan(moments, grain=chance.randint(3, 9), most=chance.randint(1, 12), without=((),) + without)


class AnyCases(unittest.TestCase):
    def some(self, seed, many):
        chance = dice(seed)
        for _ in range(many):
            dims = chance.choice((2, 2, 2, 3))
            setting, question, readings, here = a_case(chance, dims=dims, share=chance.randint(3, 12))
            yield chance, setting, question, readings, here, a_plan(chance, question)

    def test_they_are_the_same_as_by_hand(self):
        verdicts = {"out": 0, "in": 0, "stuck": 0}
        for chance, setting, question, readings, _, plan in self.some(111, 100):
            given = copy.deepcopy([readings, plan])
            steps = chance.choice((0, 1, 5, 40, 150))
            found = search(setting, question, readings, plan, steps)
            told, left = by_hand(setting, question, readings, plan, steps)
            self.assertEqual((found.told, found.left), (told, left))
            self.assertEqual(found.known, tuple(know(setting, question, readings, plan)[0]))
            self.assertEqual([readings, plan], given)
            for one in found:
                verdicts[one.verdict] += 1
        self.assertGreater(min(verdicts.values()), 30, verdicts)

    def test_everything_that_is_told_is_shown_and_the_world_is_not_left_out(self):
        verdicts = {"out": 0, "in": 0, "stuck": 0}
        for chance, setting, question, readings, here, plan in self.some(112, 120):
            found = search(setting, question, readings, plan, chance.choice((3, 30, 200)))
            check_found(self, setting, question, readings, found, here, chance=chance)
            for told in found:
                verdicts[told.verdict] += 1
        self.assertGreater(min(verdicts.values()), 50, verdicts)

    def test_with_more_steps_what_was_told_stays_told(self):
        for chance, setting, question, readings, _, plan in self.some(113, 25):
            whole = search(setting, question, readings, plan, 120)
            for steps in (0, 1, 7, 60):
                found = search(setting, question, readings, plan, steps)
                self.assertEqual(found.told, whole.told[:len(found.told)])
                self.assertEqual(found.known, whole.known)

    def test_nothing_is_left_after_so_many_steps(self):
        for chance, setting, question, readings, _, plan in self.some(114, 20):
            lengths = [high - low for low, high in question.root]
            doublings = 0
            while max(lengths) > question.share * 2 ** doublings:
                doublings += 1
            if len(lengths) * doublings <= 11:
                found = search(setting, question, readings, plan, 2 ** (len(lengths) * doublings + 1))
                self.assertEqual(found.left, [])
                self.assertTrue(make_up([told.cell for told in found]))

    def test_nothing_is_left_even_if_no_cell_is_out(self):
        for share, side, doublings in ((1, 4, 2), (3, 6, 1), (2, 9, 3), (5, 5, 0)):
            question = a_question(0, ((0, side),) * 3, share=share)
            found = search(STILL, question, [], NO_PLAN, 2 ** (3 * doublings + 1))
            self.assertEqual(found.left, [])
            self.assertEqual({told.verdict for told in found}, {"in"})


if __name__ == "__main__":
    unittest.main()
