"""A standing question (points [72] to [77] and [84])."""

import copy
import types
import unittest

from sureplace.judge.papers import Known, Paper
from sureplace.standing.bounded import witness_bounded
from sureplace.standing.watch import Watch
from sureplace.witness.ways import Witness
from tests.helpers import a_question, a_setting, says_x

STILL = a_setting(speed=0, drift=0, per=1)
FAST = a_setting(speed=10 ** 12, drift=10 ** 12, per=1)
LINE = ((0, 8), (0, 0), (0, 0))
KEEP = (("kept", 0),)
ONE = ((0, ()),)
FAR = 10 ** 18


def x_from(low, high):
    return ((low, high), (0, 0), (0, 0))


def by(*numbers):
    """A tree for each of the readings with these numbers."""
    return tuple((("reading", number),) for number in numbers)


def at(x, moment=0):
    """A witness of one point."""
    return Witness((), ((moment, x, 0, 0),))


# Without liars, the place is from 3 to 4; by reading 3 it would be from 6 to 8.
READINGS = [(1, says_x("a", 3, 9)), (2, says_x("b", -9, 4)), (3, says_x("c", 6, 8))]


class Case(unittest.TestCase):
    def setUp(self):
        self.setting, self.readings = STILL, list(READINGS)
        self.ask()

    def ask(self, *, liars=0, share=2, root=LINE, moment=0):
        self.question = a_question(moment, root, liars=liars, share=share, earliest=-9, latest=9)
        self.watch = Watch(self.question)

    def learn(self, thing):
        return self.watch.learn(self.setting, self.readings, thing)

    def refute(self, address, trees, steps=ONE):
        told = self.watch.refute(self.setting, self.readings, address, trees, steps)
        self.assertIs(type(told), bool)
        return told

    def reach(self, address, witness):
        told = self.watch.reach(self.setting, self.readings, address, witness)
        self.assertIs(type(told), bool)
        return told

    def turn(self, readings):
        self.readings = readings
        return self.watch.turn(self.setting, self.readings)

    def cells(self):
        return dict(self.watch.cells())


class AtFirst(Case):
    def test_nothing_is_known_and_the_root_is_open(self):
        self.assertIs(self.watch.question, self.question)
        self.assertEqual(self.watch.things(), [])
        self.assertEqual(list(self.watch.cells()), [("", "open")])
        for address in ("", "0", "01"):
            self.assertIsNone(self.watch.paper(address))
            self.assertIsNone(self.watch.witness(address))
        self.assertIsInstance(self.watch.cells(), types.GeneratorType)

    def test_equal_only_to_itself(self):
        self.assertTrue(self.watch == self.watch)
        self.assertFalse(self.watch == Watch(self.question))
        self.assertTrue(self.watch != Watch(self.question))


class Learning(Case):
    def test_places(self):
        things = [Known(0, (x_from(3, 8),), (("cut", 0, 3), ("kept", 0), ("kept", 0))),
                  Known(0, (x_from(2, 8),), (("cut", 0, 2), ("reading", 1), ("kept", 0))),
                  Known(5, (LINE,), KEEP), Known(0, (x_from(2, 8),), (("known", 0),))]
        self.assertEqual([self.learn(thing) for thing in things], [None, 0, 1, None])
        self.assertEqual(self.watch.things(), things[1:3])
        self.assertEqual(self.learn(Known(0, (x_from(1, 8),), (("cut", 0, 1), ("known", 0), ("kept", 0)))), 2)
        self.assertEqual(self.learn(Known(0, (), (("known", 4),))), None)
        self.assertEqual(len(self.watch.things()), 3)

    def test_it_is_judged_for_the_readings_that_are_given(self):
        thing = Known(0, (), (("reading", 4),))
        self.assertIsNone(self.learn(thing))
        self.readings.append((4, says_x("d", 9, 9)))
        self.assertEqual(self.learn(thing), 0)
        # What is known is not right without this reading: then nothing can be learned, until the next turn.
        self.readings.pop()
        self.assertIsNone(self.learn(Known(0, (LINE,), KEEP)))
        self.readings.append((4, says_x("d", 9, 9)))
        self.assertEqual(self.learn(Known(0, (LINE,), KEEP)), 1)
        self.assertEqual(self.watch.things(), [thing, Known(0, (LINE,), KEEP)])

    def test_at_most_128(self):
        thing = Known(0, (LINE,), KEEP)
        self.assertEqual([self.learn(thing) for _ in range(130)], list(range(128)) + [None, None])
        self.assertEqual(len(self.watch.things()), 128)

    def test_the_list_is_new(self):
        self.learn(Known(0, (LINE,), KEEP))
        before = self.watch.things()
        self.watch.things().append(None)
        self.learn(Known(5, (LINE,), KEEP))
        self.assertEqual(before, [Known(0, (LINE,), KEEP)])
        self.assertEqual(len(self.watch.things()), 2)


class Refuting(Case):
    def test_out(self):
        self.assertIs(self.refute("1", by(2)), False)
        self.assertIs(self.refute("11", by(2)), True)
        self.assertEqual(self.cells(), {"0": "open", "10": "open", "11": "out"})
        self.assertEqual(self.watch.paper("11"), Paper((), by(2), ONE))
        self.assertIsNone(self.watch.witness("11"))
        for address in ("", "0", "1", "10", "110"):
            self.assertIsNone(self.watch.paper(address), address)

    def test_the_root(self):
        self.assertIs(self.refute("", ((("cut", 0, 5), ("reading", 3), ("reading", 2)),)), True)
        self.assertEqual(self.cells(), {"": "out"})
        for address in ("", "0", "11"):
            self.assertIs(self.refute(address, by(2, 3), ((1, ()),)), False, address)

    def test_no_such_cell(self):
        # The sides are 1 long after three cuts.
        self.assertIs(self.refute("1110", by(2)), False)
        self.assertIs(self.refute("1" * 240, by(2)), False)
        self.assertIs(self.refute("111", by(2)), True)
        self.assertEqual(self.cells(), {"0": "open", "10": "open", "110": "open", "111": "out"})
        for text in ("2", "0x", " ", "01 "):
            self.assertIs(self.refute(text, by(1, 2), ((1, ()),)), False, text)
            self.assertIs(self.reach(text, at(3)), False, text)
            self.assertIsNone(self.watch.paper(text))

    def test_a_paper_that_is_not_accepted_changes_nothing(self):
        self.learn(Known(0, (x_from(2, 8),), (("cut", 0, 2), ("reading", 1), ("kept", 0))))
        for trees, steps in ((by(1), ONE), (by(2), ()), (by(2), ((1, ()),)), ((), ONE), (by(2), ((0, (1,)), (0, ()))),
                             ((KEEP,), ONE), (((("known", 1),),), ONE), (by(4), ONE)):
            self.assertIs(self.refute("11", trees, steps), False)
        self.assertEqual(self.cells(), {"": "open"})
        self.assertEqual(len(self.watch.things()), 1)

    def test_known_things_that_are_not_right_for_the_readings(self):
        self.readings.append((4, says_x("d", 9, 9)))
        self.assertEqual(self.learn(Known(0, (), (("reading", 4),))), 0)
        self.readings.pop()
        # The paper has all known things, also those that no tree names.
        self.assertIs(self.refute("11", by(2)), False)
        self.turn(self.readings)
        self.assertIs(self.refute("11", by(2)), True)

    def test_liars(self):
        self.ask(liars=1)
        self.assertIs(self.refute("00", by(1, 3)), False)
        self.assertIs(self.refute("00", by(1, 3), ((0, (1,)), (1, ()))), True)
        self.assertIs(self.refute("11", by(2, 3), ((0, (1,)), (1, ()))), False)

    def test_with_what_is_known(self):
        self.learn(Known(0, (x_from(4, 8),), (("cut", 0, 4), ("reading", 3), ("kept", 0))))
        self.assertIs(self.refute("00", ((("known", 0),),)), True)
        self.assertEqual(self.watch.paper("00"), Paper(tuple(self.watch.things()), ((("known", 0),),), ONE))
        before = self.watch.paper("00")
        self.learn(Known(5, (LINE,), KEEP))
        self.assertEqual(len(self.watch.paper("00").known), 2)
        self.assertEqual(len(before.known), 1)

    def test_what_is_in_can_be_refuted_but_not_its_parts(self):
        self.ask(share=4)
        self.readings = [(1, says_x("a", -99, 99)), (2, says_x("b", 9, 9))]
        self.assertIs(self.reach("1", at(6)), True)
        self.assertIs(self.refute("10", by(2)), False)
        self.assertIs(self.refute("1", by(2)), True)
        self.assertEqual(self.cells(), {"0": "open", "1": "out"})
        self.assertIsNone(self.watch.witness("1"))

    def test_neither_what_is_out_nor_its_parts(self):
        self.assertIs(self.refute("1", by(3)), False)
        self.readings[2] = (3, says_x("c", 9, 9))
        self.assertIs(self.refute("1", by(3)), True)
        for address in ("1", "10", "111"):
            self.assertIs(self.refute(address, by(3)), False, address)
        self.assertIs(self.refute("", by(3)), True)

    def test_a_cell_that_was_cut_loses_its_parts(self):
        self.readings = [(1, says_x("a", 9, 9))]
        self.assertIs(self.refute("101", by(1)), True)
        self.assertIs(self.refute("00", by(1)), True)
        self.assertEqual(self.cells(), {"00": "out", "01": "open", "100": "open", "101": "out", "11": "open"})
        self.assertIs(self.refute("1", by(1)), True)
        self.assertEqual(self.cells(), {"00": "out", "01": "open", "1": "out"})
        self.assertIsNone(self.watch.paper("101"))

    def test_what_is_in_inside_a_cell_that_was_cut(self):
        self.readings = [(1, says_x("a", 9, 9))]
        self.assertIs(self.reach("11", at(7)), True)
        self.assertIs(self.refute("1", by(1)), True)
        self.assertEqual(self.cells(), {"0": "open", "1": "out"})
        self.assertIsNone(self.watch.witness("11"))


class Reaching(Case):
    def test_in(self):
        self.assertIs(self.reach("01", at(3)), True)
        self.assertEqual(self.cells(), {"00": "open", "01": "in", "1": "open"})
        self.assertEqual(self.watch.witness("01"), at(3))
        self.assertIsNone(self.watch.paper("01"))
        for address in ("", "0", "00", "010"):
            self.assertIsNone(self.watch.witness(address), address)

    def test_no_such_cell(self):
        self.ask(share=1)
        self.assertIs(self.reach("0111", at(4)), False)
        self.assertIs(self.reach("011", at(4)), True)

    def test_only_a_cell_that_is_small(self):
        for share, told in ((1, False), (2, True), (3, True)):
            self.ask(share=share)
            self.assertIs(self.reach("01", at(3)), told, share)
        self.ask(share=3)
        self.assertIs(self.reach("0", at(3)), False)

    def test_a_witness_that_is_not_accepted_changes_nothing(self):
        self.readings.append((4, says_x("d", 90, 90)))
        for address, witness in (("01", at(3)), ("00", Witness(("d",), ((0, 1, 0, 0),))), ("01", Witness((), ()))):
            self.assertIs(self.reach(address, witness), False)
        self.assertEqual(self.cells(), {"": "open"})
        self.readings.pop()
        self.assertIs(self.reach("01", at(5)), False)
        self.assertIs(self.reach("01", at(4)), True)

    def test_not_if_it_is_cut_or_out_or_in(self):
        self.ask(share=8)
        self.assertIs(self.reach("01", at(3)), True)
        for address in ("01", "010", "0", ""):
            self.assertIs(self.reach(address, at(3)), False, address)
        self.assertIs(self.refute("11", by(2)), True)
        for address in ("11", "110", "1"):
            self.assertIs(self.reach(address, at(7)), False, address)
        self.assertIs(self.reach("10", at(5)), True)
        self.assertEqual(self.cells(), {"00": "open", "01": "in", "10": "in", "11": "out"})


class Cutting(Case):
    def test_each_half_beside_the_way_is_open_and_the_others_stay(self):
        root = ((0, 16), (0, 16), (0, 0))
        self.ask(root=root, share=4)
        self.readings = [(1, says_x("a", 9, 30))]
        self.assertIs(self.refute("0011", by(1)), True)
        self.assertEqual(list(self.watch.cells()),
                         [("000", "open"), ("0010", "open"), ("0011", "out"), ("01", "open"), ("1", "open")])
        self.assertIs(self.reach("1100", Witness((), ((0, 10, 10, 0),))), True)
        self.assertIs(self.refute("010", by(1)), True)
        self.assertEqual(list(self.watch.cells()),
                         [("000", "open"), ("0010", "open"), ("0011", "out"), ("010", "out"), ("011", "open"),
                          ("10", "open"), ("1100", "in"), ("1101", "open"), ("111", "open")])


class Turning(Case):
    def test_nothing_falls(self):
        self.assertEqual(self.turn(self.readings), [])
        self.refute("11", by(2)), self.reach("01", at(3))
        self.assertEqual(self.turn(self.readings), [])
        self.assertEqual(self.turn(self.readings + [(9, says_x("z", 0, 9))]), [])
        self.assertEqual(self.cells(), {"00": "open", "01": "in", "10": "open", "11": "out"})

    def test_cells_that_fall_are_open_and_cells_that_are_cut_stay_cut(self):
        self.refute("11", by(2)), self.refute("000", by(1)), self.reach("01", at(3)), self.refute("10", by(2))
        self.assertEqual(self.cells(), {"000": "out", "001": "open", "01": "in", "10": "open", "11": "out"})
        self.assertEqual(self.turn(READINGS[:1] + [(7, says_x("z", 20, 20))]), ["01", "11"])
        self.assertEqual(self.cells(), {"000": "out", "001": "open", "01": "open", "10": "open", "11": "open"})
        self.assertEqual((self.watch.paper("11"), self.watch.witness("01")), (None, None))
        self.assertEqual(self.watch.paper("000"), Paper((), by(1), ONE))
        self.assertEqual(self.turn(READINGS), [])
        self.assertEqual(self.cells()["11"], "open")
        self.assertIs(self.refute("11", by(2)), True)

    def test_the_addresses_ascend_as_texts(self):
        self.readings = [(1, says_x("a", 9, 9))]
        for address in ("11", "101", "100", "01", "001", "000"):
            self.assertIs(self.refute(address, by(1)), True)
        self.assertEqual(self.turn([]), ["000", "001", "01", "100", "101", "11"])

    def test_a_known_thing_that_is_not_right_is_replaced(self):
        plain = Known(0, (LINE,), KEEP)
        first = Known(0, (), (("cut", 0, 5), ("reading", 3), ("reading", 2)))
        things = [first, Known(4, (LINE,), KEEP), Known(3, (), (("known", 0),)), Known(5, (), (("known", 0),)),
                  Known(6, (x_from(2, 8),), (("cut", 0, 2), ("reading", 1), ("kept", 0)))]
        self.assertEqual([self.learn(thing) for thing in things], [0, 1, 2, 3, 4])
        self.assertIs(self.refute("00", ((("known", 2),),)), True)
        self.assertIs(self.refute("01", ((("known", 2),), (("reading", 3),)), ((1, ()),)), True)
        # Without reading 2 the first thing is not right, and so are those that refer to it.
        self.assertEqual(self.turn([READINGS[0], READINGS[2]]), ["00"])
        self.assertEqual(self.watch.things(), [plain, things[1], plain, plain, things[4]])
        self.assertEqual(self.watch.paper("01").known, (plain, things[1], plain, plain, things[4]))
        # They do not come back.
        self.assertEqual(self.turn(READINGS), [])
        self.assertEqual(self.watch.things(), [plain, things[1], plain, plain, things[4]])
        self.assertEqual(self.learn(first), 5)

    def test_a_thing_may_still_be_right_with_what_replaced_the_one_before(self):
        root, around = ((0, 8), (0, 8), (0, 0)), ((-30, 38), (-30, 38), (0, 0))
        self.setting = a_setting(speed=30, drift=0, per=1)
        self.ask(root=root)
        self.readings = [(1, says_x("a", 0, 4))]
        first = Known(0, (((0, 5), (0, 8), (0, 0)),), (("cut", 0, 5), ("kept", 0), ("reading", 1)))
        # One cannot go from the root to the corner; to the places from 36 on only if one is beyond the first thing.
        corner = Known(1, (around,), (("cut", 0, 33), ("kept", 0), ("cut", 1, 33), ("kept", 0), ("known", 0)))
        beyond = Known(1, (((-30, 36), (-30, 38), (0, 0)),), (("cut", 0, 36), ("kept", 0), ("known", 0)))
        self.assertEqual([self.learn(thing) for thing in (first, corner, beyond)], [0, 1, 2])
        plain = Known(0, (root,), KEEP)
        self.assertEqual(self.turn([]), [])
        self.assertEqual(self.watch.things(), [plain, corner, plain])

    def test_the_plain_thing_is_at_the_moment_of_the_question(self):
        self.ask(moment=7)
        self.learn(Known(2, (x_from(3, 8),), (("cut", 0, 3), ("kept", 0), ("kept", 0))))
        self.assertEqual(self.learn(Known(2, (), (("cut", 0, 5), ("reading", 3), ("reading", 2)))), 0)
        self.turn([])
        self.assertEqual(self.watch.things(), [Known(7, (LINE,), KEEP)])

    def test_what_was_returned_stays(self):
        self.learn(Known(0, (), (("cut", 0, 5), ("reading", 3), ("reading", 2))))
        self.refute("1", ((("known", 0),),))
        told = [self.watch.things(), self.watch.paper("1"), list(self.watch.cells())]
        before = copy.deepcopy(told)
        fell = self.turn([])
        fell.append("x")
        self.assertEqual(told, before)
        self.assertEqual(self.turn([]), [])

    def test_what_is_given_stays_as_it_is(self):
        trees, steps, readings = [(("reading", 2),)], [(0, ())], list(READINGS)
        before = copy.deepcopy((trees, steps, readings))
        self.watch.refute(STILL, readings, "11", tuple(trees), tuple(steps))
        self.watch.turn(STILL, readings)
        self.assertEqual((trees, steps, readings), before)


class BoundedThings(Case):
    def setUp(self):
        super().setUp()
        self.readings = [(1, says_x("a", 9, 9))]

    def accepted(self, thing):
        self.watch = Watch(self.question)
        self.learn(Known(0, (), (("reading", 1),)))
        return self.learn(thing) == 1

    def test_moments_and_boxes(self):
        for number, told in ((FAR, True), (-FAR, True), (FAR + 1, False), (-FAR - 1, False)):
            self.assertIs(self.accepted(Known(number, (LINE,), KEEP)), told, number)
            side = (min(0, number), max(8, number))
            for axis in range(3):
                box = LINE[:axis] + (side,) + LINE[axis + 1:]
                self.assertIs(self.accepted(Known(0, (box,), KEEP)), told, box)
                self.assertIs(self.accepted(Known(0, (LINE, box), KEEP)), told, box)

    def test_sides_of_boxes(self):
        for box, told in ((LINE, True), (LINE + ((0, 0),), False), (LINE[:2], False), ((), False),
                          (((5, 4), (0, 0), (0, 0)), False), (((0, 8), (0, 0), (1, 0)), False)):
            self.assertIs(self.accepted(Known(0, (LINE, box), KEEP)), told, box)

    def test_steps(self):
        for step, told in ((("kept", 0), True), (("known", 0), True), (("reading", 1), True)):
            self.assertIs(self.accepted(Known(0, (LINE,), (step,))), told)
        # One who is nowhere can be cut anywhere.
        self.setting = FAST
        self.ask(moment=0)
        self.readings = [(1, says_x("a", 9, 9))]
        for place, told in ((5, True), (-5, True), (FAR, True), (-FAR, True), (FAR + 1, False), (-FAR - 1, False)):
            tree = (("cut", 0, place), ("known", 0), ("known", 0))
            self.assertIs(self.accepted(Known(10 ** 8, (), tree)), told, place)

    def test_lengths(self):
        for many, told in ((100000, True), (100001, False)):
            self.assertIs(self.accepted(Known(0, (LINE,) * many, KEEP)), told, many)
        # A tree with as many steps as can be: each cut has two parts, so the number is odd.
        self.setting = FAST

        def tree_of(cuts, low, high):
            if cuts == 0:
                return [("known", 0)]
            place, first = (low + high) // 2, (cuts - 1) // 2
            return ([("cut", 0, place)] + tree_of(first, low, place) + tree_of(cuts - 1 - first, place, high))

        for cuts, told in ((49999, True), (50000, False)):
            tree = tuple(tree_of(cuts, -10 ** 10, 10 ** 10))
            self.assertEqual(len(tree), 2 * cuts + 1)
            self.assertIs(self.accepted(Known(1, (), tree)), told, cuts)


class BoundedPapers(Case):
    def accepted(self, trees=(), steps=()):
        """Is a paper accepted that has these trees and steps besides what it needs?"""
        self.watch = Watch(self.question)
        return self.refute("11", by(2) + trees, ONE + steps)

    def test_steps_of_trees(self):
        for number, told in ((0, True), (FAR, True), (-1, False), (FAR + 1, False)):
            for word in ("reading", "known", "kept"):
                self.assertIs(self.accepted((((word, number),),)), told, (word, number))
                self.assertIs(self.accepted(((), (("kept", 0), (word, number)))), told, (word, number))
            self.assertIs(self.accepted(((("cut", number, 0),),)), told, number)
        for place, told in ((0, True), (FAR, True), (-FAR, True), (FAR + 1, False), (-FAR - 1, False)):
            self.assertIs(self.accepted(((("cut", 0, place),),)), told, place)
        self.assertIs(self.accepted(((("other", 0),),)), False)

    def test_steps_of_blame(self):
        for number, told in ((0, True), (FAR, True), (-1, False), (FAR + 1, False)):
            self.assertIs(self.accepted(steps=((number, ()),)), told, number)
            self.assertIs(self.accepted(steps=((0, (number,)),)), told, number)
            self.assertIs(self.accepted(steps=((0, ()), (0, (1, number)))), told, number)

    def test_lengths(self):
        for many, told in ((100000, True), (100001, False)):
            self.assertIs(self.accepted(((("kept", 0),) * many,)), told, many)
            self.assertIs(self.accepted(((),) * (many - 1)), told, many)
            self.assertIs(self.accepted(steps=((0, ()),) * (many - 1)), told, many)
            self.assertIs(self.accepted(steps=((0, (1,) * many),)), told, many)


class BoundedWitnesses(Case):
    def accepted(self, *points, liars=()):
        self.watch = Watch(self.question)
        return self.reach("01", Witness(liars, ((0, 3, 0, 0),) + points))

    def test_points(self):
        self.setting = FAST
        for number, told in ((FAR, True), (FAR + 1, False)):
            self.assertIs(self.accepted((number, 3, 0, 0)), told, number)
        for number, told in ((FAR, True), (-FAR, True), (FAR + 1, False), (-FAR - 1, False)):
            for axis in range(3):
                place = (0,) * axis + (number,) + (0,) * (2 - axis)
                self.assertIs(self.accepted((10 ** 8,) + place), told, place)

    def test_numbers_of_points(self):
        self.assertIs(self.accepted((1, 3, 0, 0)), True)
        self.assertIs(self.accepted((1, 3, 0, 0, 0)), False)

    def test_liars_are_names(self):
        self.ask(liars=1)
        for liar, told in (("a", True), ("no_such-source9", True), ("x" * 64, True), ("x" * 65, False), ("", False),
                           ("A", False), ("a b", False)):
            self.assertIs(self.accepted(liars=(liar,)), told, liar)

    def test_lengths(self):
        points = tuple((moment, 3, 0, 0) for moment in range(1, 100002))
        self.assertIs(self.accepted(*points[:99999]), True)
        self.assertIs(self.accepted(*points[:100000]), False)
        # There are never so many liars.
        for many, told in ((100000, True), (100001, False)):
            self.assertIs(witness_bounded(STILL, Witness((), points[:many])), told, many)
            self.assertIs(witness_bounded(STILL, Witness(("a",) * many, points[:1])), told, many)


if __name__ == "__main__":
    unittest.main()
