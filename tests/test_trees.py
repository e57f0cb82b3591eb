"""Trees and how they are judged (points [27] to [30] and [32])."""

import copy
import unittest

from sureplace.judge.trees import Held, judge_tree
from sureplace.kinds.exclusion import excludes
from sureplace.motion.going import farther
from sureplace.numbers.boxes import cut, inside
from tests.helpers import a_box, a_setting, dice, places_of, says_x

STILL = a_setting(speed=0, drift=0, per=1)
BOX = ((0, 8), (0, 8), (0, 0))


def at_x(x):
    """The box of the places with this first number."""
    return ((x, x), (0, 8), (0, 0))


def judged(tree, *, box=BOX, readings=(), held=(), keep=(), moment=0, setting=STILL):
    return judge_tree(setting, list(readings), list(held), tuple(keep), moment, tree, box)


class HeldThings(unittest.TestCase):
    def test_the_fields(self):
        thing = Held(3, (BOX,), ("a", "b"))
        self.assertEqual((thing.moment, thing.cover, thing.used), (3, (BOX,), ("a", "b")))
        self.assertEqual(Held(moment=1, cover=(), used=()).used, ())

    def test_equality(self):
        thing = Held(3, (BOX,), ("a", "b"))
        self.assertEqual(thing, Held(3, (BOX,), ("a", "b")))
        for other in (Held(4, (BOX,), ("a", "b")), Held(3, (), ("a", "b")), Held(3, (BOX,), ("b", "a"))):
            self.assertNotEqual(thing, other)
        for other in (3, "a", None, (3, (BOX,), ("a", "b")), [thing], STILL):
            self.assertIs(thing == other, False)
            self.assertIs(thing != other, True)


class ReadingSteps(unittest.TestCase):
    def test_the_reading_excludes_the_box(self):
        readings = [(4, says_x("a", 9, 20)), (2, says_x("b", 8, 20))]
        self.assertEqual(judged((("reading", 4),), readings=readings), ("a",))
        self.assertIsNone(judged((("reading", 2),), readings=readings))

    def test_a_number_that_there_is_not(self):
        readings = [(4, says_x("a", 9, 20)), (2, says_x("b", 9, 20))]
        for number in (0, 1, 3, 5, -1, -2, -4, 10 ** 20, -10 ** 20):
            self.assertIsNone(judged((("reading", number),), readings=readings), number)
        self.assertIsNone(judged((("reading", 4),)))

    def test_numbers_of_readings_may_be_any(self):
        readings = [(10 ** 20, says_x("a", 9, 20)), (-3, says_x("b", 9, 20)), (0, says_x("c", 9, 20))]
        for number, source in ((10 ** 20, "a"), (-3, "b"), (0, "c")):
            self.assertEqual(judged((("reading", number),), readings=readings), (source,))

    def test_it_excludes_at_the_moment_that_is_told(self):
        setting = a_setting(speed=1, drift=0, per=1)
        readings = [(1, says_x("a", 10, 20, moment=5))]
        for moment, told in ((5, ("a",)), (6, ("a",)), (7, None), (4, ("a",)), (3, None)):
            self.assertEqual(judged((("reading", 1),), readings=readings, moment=moment, setting=setting), told)


class KnownSteps(unittest.TestCase):
    SETTING = a_setting(speed=1, drift=0, per=1)

    def test_farther_from_each_box(self):
        thing = Held(3, (at_x(12), at_x(-4)), ("a", "b"))
        for moment, told in ((3, ("a", "b")), (0, ("a", "b")), (6, ("a", "b")), (-1, None), (7, None)):
            self.assertEqual(judged((("known", 0),), held=[thing], moment=moment, setting=self.SETTING), told, moment)
        for cover in ((at_x(11), at_x(-4)), (at_x(12), at_x(-3))):
            self.assertIsNone(judged((("known", 0),), held=[Held(3, cover, ("a",))], setting=self.SETTING), cover)

    def test_the_clock_counts(self):
        thing = Held(1, (((0, 8), (0, 8), (3, 3)),), ("a",))
        for drift, told in ((2, ("a",)), (3, None)):
            setting = a_setting(speed=9, drift=drift, per=1)
            self.assertEqual(judged((("known", 0),), held=[thing], setting=setting), told)

    def test_a_place_that_there_is_not(self):
        held = [Held(0, (), ("a",)), Held(0, (), ("b",))]
        for place, told in ((0, ("a",)), (1, ("b",)), (2, None), (-1, None), (-2, None), (10 ** 20, None)):
            self.assertEqual(judged((("known", place),), held=held), told, place)
        self.assertIsNone(judged((("known", 0),)))

    def test_a_known_thing_without_boxes(self):
        for used in ((), ("a",), ("b", "a")):
            self.assertEqual(judged((("known", 0),), held=[Held(99, (), used)]), used)


class KeptSteps(unittest.TestCase):
    def test_inside_the_kept_box(self):
        self.assertEqual(judged((("kept", 0),), keep=(BOX,)), ())
        self.assertEqual(judged((("kept", 0),), keep=(((-1, 9), (0, 8), (0, 1)),)), ())
        for axis in range(3):
            low, high = BOX[axis]
            for side in ((low + 1, high + 1), (low - 1, high - 1)):
                other = BOX[:axis] + (side,) + BOX[axis + 1:]
                self.assertIsNone(judged((("kept", 0),), keep=(other,)), other)

    def test_a_place_that_there_is_not(self):
        keep = (BOX, BOX)
        for place, told in ((0, ()), (1, ()), (2, None), (-1, None), (-2, None), (10 ** 20, None)):
            self.assertEqual(judged((("kept", place),), keep=keep), told, place)
        self.assertIsNone(judged((("kept", 0),)))


class Shapes(unittest.TestCase):
    KEEP = (BOX,)
    LEAF = ("kept", 0)

    def test_a_cut_and_its_two_parts(self):
        keep = (((0, 3), (0, 8), (0, 0)), ((3, 8), (0, 8), (0, 0)))
        self.assertEqual(judged((("cut", 0, 3), ("kept", 0), ("kept", 1)), keep=keep), ())
        self.assertIsNone(judged((("cut", 0, 3), ("kept", 1), ("kept", 0)), keep=keep))
        self.assertIsNone(judged((("cut", 0, 2), ("kept", 0), ("kept", 1)), keep=keep))

    def test_the_steps_of_the_first_part_come_first(self):
        keep = (((0, 1), (0, 8), (0, 0)), ((1, 3), (0, 8), (0, 0)), ((3, 8), (0, 5), (0, 0)), ((3, 8), (5, 8), (0, 0)))
        tree = (("cut", 0, 3), ("cut", 0, 1), ("kept", 0), ("kept", 1), ("cut", 1, 5), ("kept", 2), ("kept", 3))
        self.assertEqual(judged(tree, keep=keep), ())
        swapped = tree[:1] + tree[4:] + tree[1:4]
        self.assertIsNone(judged(swapped, keep=keep))

    def test_a_step_too_few_and_a_step_too_many(self):
        tree = (("cut", 0, 3), self.LEAF, ("cut", 1, 4), self.LEAF, self.LEAF)
        self.assertEqual(judged(tree, keep=self.KEEP), ())
        self.assertIsNone(judged(tree[:-1], keep=self.KEEP))
        self.assertIsNone(judged(tree + (self.LEAF,), keep=self.KEEP))
        self.assertIsNone(judged(tree + (("cut", 0, 3), self.LEAF, self.LEAF), keep=self.KEEP))
        self.assertIsNone(judged((), keep=self.KEEP))
        self.assertIsNone(judged((self.LEAF, self.LEAF), keep=self.KEEP))
        self.assertIsNone(judged((("cut", 0, 3),), keep=self.KEEP))
        self.assertIsNone(judged((("cut", 0, 3), self.LEAF), keep=self.KEEP))

    def test_a_cut_that_does_not_cut(self):
        for axis, place, told in ((0, 1, ()), (0, 7, ()), (0, 0, None), (0, 8, None), (0, -1, None), (0, 9, None),
                                  (1, 4, ()), (2, 0, None), (3, 4, None), (-1, 4, None), (-2, 4, None),
                                  (-3, 4, None), (10 ** 20, 4, None), (0, 10 ** 20, None)):
            self.assertEqual(judged((("cut", axis, place), self.LEAF, self.LEAF), keep=self.KEEP), told, (axis, place))
        # The place lies in the box, but not in the part.
        self.assertIsNone(judged((("cut", 0, 3), ("cut", 0, 3), *[self.LEAF] * 3), keep=self.KEEP))
        self.assertEqual(judged((("cut", 0, 3), ("cut", 0, 2), *[self.LEAF] * 3), keep=self.KEEP), ())

    def test_the_clock_can_be_cut(self):
        box = ((0, 8), (0, 8), (0, 2))
        self.assertEqual(judged((("cut", 2, 1), self.LEAF, self.LEAF), keep=(box,), box=box), ())

    def test_every_step_must_be_true(self):
        readings = [(1, says_x("a", 4, 9)), (2, says_x("b", -9, 2))]
        tree = (("cut", 0, 3), ("reading", 1), ("reading", 2))
        self.assertEqual(judged(tree, readings=readings), ("a", "b"))
        for wrong in ((("cut", 0, 3), ("reading", 2), ("reading", 2)), (("cut", 0, 3), ("reading", 1), ("reading", 1)),
                      (("cut", 0, 4), ("reading", 1), ("reading", 2)), (("cut", 0, 2), ("reading", 1), ("reading", 2))):
            self.assertIsNone(judged(wrong, readings=readings), wrong)


class Depth(unittest.TestCase):
    BOX = ((0, 1000), (0, 8), (0, 0))

    def in_first_parts(self, cuts):
        return tuple(("cut", 0, 999 - k) for k in range(cuts)) + (("kept", 0),) * (cuts + 1)

    def in_second_parts(self, cuts):
        return tuple(step for k in range(cuts) for step in (("cut", 0, k + 1), ("kept", 0))) + (("kept", 0),)

    def test_at_most_240_cuts_lie_within_one_another(self):
        for tree in (self.in_first_parts, self.in_second_parts):
            for cuts, told in ((1, ()), (239, ()), (240, ()), (241, None), (300, None)):
                self.assertEqual(judged(tree(cuts), keep=(self.BOX,), box=self.BOX), told, cuts)

    def test_cuts_beside_one_another_do_not_count(self):
        box = ((0, 1024), (0, 8), (0, 0))

        def balanced(low, high):
            if high - low == 1:
                return (("kept", 0),)
            place = (low + high) // 2
            return (("cut", 0, place),) + balanced(low, place) + balanced(place, high)

        self.assertEqual(judged(balanced(0, 1024), keep=(box,), box=box), ())

    def test_240_within_the_second_part_after_some_in_the_first(self):
        first = (("cut", 0, 999),) + tuple(("cut", 0, 998 - k) for k in range(239)) + (("kept", 0),) * 240
        self.assertEqual(judged(first + (("kept", 0),), keep=(self.BOX,), box=self.BOX), ())
        deeper = (("cut", 1, 4),) + first + (("kept", 0),) * 2
        self.assertIsNone(judged(deeper, keep=(self.BOX,), box=self.BOX))


class RestsOn(unittest.TestCase):
    def test_each_source_once_where_it_comes_first(self):
        readings = [(1, says_x("b", 9, 20)), (2, says_x("a", 9, 20)), (3, says_x("b", 9, 20))]
        held = [Held(0, (), ("c", "a")), Held(0, (), ("d", "b"))]

        def rested(*steps):
            tree = tuple(step for k in range(len(steps) - 1) for step in (("cut", 0, k + 1), steps[k])) + steps[-1:]
            return judged(tree, readings=readings, held=held, keep=(BOX,))

        self.assertEqual(rested(("reading", 1), ("reading", 2)), ("b", "a"))
        self.assertEqual(rested(("reading", 2), ("reading", 1)), ("a", "b"))
        self.assertEqual(rested(("reading", 1), ("reading", 2), ("reading", 3)), ("b", "a"))
        self.assertEqual(rested(("known", 0), ("known", 1)), ("c", "a", "d", "b"))
        self.assertEqual(rested(("reading", 1), ("known", 0), ("known", 1)), ("b", "c", "a", "d"))
        self.assertEqual(rested(("known", 1), ("reading", 2), ("known", 0)), ("d", "b", "a", "c"))
        self.assertEqual(rested(("kept", 0), ("reading", 2), ("kept", 0)), ("a",))
        self.assertEqual(rested(("kept", 0), ("kept", 0)), ())

    def test_what_is_given_stays_as_it_is(self):
        given = [STILL, [(1, says_x("b", 9, 20))], [Held(0, (), ("c", "a"))], (BOX,),
                 (("cut", 0, 3), ("reading", 1), ("cut", 0, 4), ("known", 0), ("kept", 0)), BOX]
        before = copy.deepcopy(given)
        self.assertEqual(judge_tree(given[0], given[1], given[2], given[3], 0, given[4], given[5]), ("b", "c", "a"))
        self.assertEqual(given, before)


def by_hand(setting, readings, held, keep, moment, tree, box):
    """The sources of the first tree among the steps, and the steps behind it; None if it shows nothing."""
    if not tree:
        return None
    step, rest = tree[0], tree[1:]
    if step[0] == "cut":
        parts = cut(box, step[1], step[2])
        first = parts and by_hand(setting, readings, held, keep, moment, rest, parts[0])
        second = first and by_hand(setting, readings, held, keep, moment, first[1], parts[1])
        return second and (first[0] + second[0], second[1])
    number = step[1]
    if step[0] == "reading":
        told = [r.source for n, r in readings if n == number and excludes(setting, r, moment, box)]
        return (tuple(told), rest) if told else None
    if step[0] == "known":
        if number not in range(len(held)):
            return None
        thing = held[number]
        apart = [farther(setting, abs(moment - thing.moment), box, other) for other in thing.cover]
        return (thing.used, rest) if all(apart) else None
    return ((), rest) if number in range(len(keep)) and inside(box, keep[number]) else None


class AnyTrees(unittest.TestCase):
    SETTING = a_setting(speed=1, drift=1, per=2)

    def a_tree(self, chance, box, left, context):
        """A tree that is true wherever a step can be found that is, and else anything."""
        readings, held, keep, moment = context
        leaves = [("reading", n) for n, _ in readings] + [("known", n) for n in range(len(held))]
        leaves += [("kept", n) for n in range(len(keep))]
        chance.shuffle(leaves)
        for leaf in leaves:
            if by_hand(self.SETTING, readings, held, keep, moment, (leaf,), box):
                return (leaf,)
        axis = chance.randrange(3)
        low, high = box[axis]
        if left == 0 or high - low < 2:
            return (chance.choice(leaves + [("reading", -1), ("known", -1), ("kept", -1)]),)
        place = chance.randint(low + 1, high - 1)
        one, two = cut(box, axis, place)
        return (("cut", axis, place),) + self.a_tree(chance, one, left - 1, context) + self.a_tree(
            chance, two, left - 1, context)

    def test_it_is_the_same_as_by_hand_and_leaves_no_place_out_without_a_reason(self):
        chance, shown, not_shown = dice(51), 0, 0
        for _ in range(600):
            box = a_box(chance, 3, -3, 3, 5)
            readings = []
            for number in range(chance.randint(1, 3)):
                low = chance.randint(-9, 6)
                readings.append((number * 2, says_x(chance.choice("abc"), low, low + 4, chance.randint(-2, 2))))
            held = [Held(chance.randint(-2, 2), (a_box(chance, 3, -6, 6, 2),), ("d", chance.choice("abc")))]
            keep = tuple(a_box(chance, 3, -4, 3, 6) for _ in range(chance.randint(0, 2)))
            tree = self.a_tree(chance, box, 5, (readings, held, keep, 0))
            if chance.random() < 0.2:
                tree = tree[:-1] if chance.random() < 0.5 else tree + tree[-1:]
            told = judge_tree(self.SETTING, readings, held, keep, 0, tree, box)
            due = by_hand(self.SETTING, readings, held, keep, 0, tree, box)
            if due is None or due[1]:
                not_shown += 1
                self.assertIsNone(told)
                continue
            shown += 1
            self.assertEqual(told, tuple(dict.fromkeys(due[0])))
            for place in places_of(box):
                there = tuple((number, number) for number in place)
                self.assertTrue(
                    any(inside(there, other) for other in keep)
                    or any(excludes(self.SETTING, reading, 0, there) for _, reading in readings)
                    or any(all(farther(self.SETTING, abs(thing.moment), there, other) for other in thing.cover)
                           for thing in held))
        self.assertGreater(min(shown, not_shown), 100)


if __name__ == "__main__":
    unittest.main()
