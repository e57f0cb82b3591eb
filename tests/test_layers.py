"""Layers, paces, and what boxes have in common (points [98] and [99])."""

import copy
import unittest

from sureplace.given.settings import Setting
from sureplace.tracks.layers import Layer, Pace, common, narrowed
from tests.helpers import a_box, dice, places_of


class Fields(unittest.TestCase):
    def test_layers(self):
        boxes = (((0, 1), (2, 3), (0, 0)),)
        layer = Layer(7, boxes)
        self.assertEqual((layer.moment, layer.boxes), (7, boxes))
        self.assertEqual(layer, Layer(moment=7, boxes=boxes))
        for other in (Layer(8, boxes), Layer(7, ()), Layer(7, boxes * 2), None, 7, (7, boxes)):
            self.assertIs(layer == other, False)
            self.assertIs(layer != other, True)

    def test_paces(self):
        pace = Pace(1, 2, 3)
        self.assertEqual((pace.speed, pace.drift, pace.per), (1, 2, 3))
        self.assertEqual(pace, Pace(speed=1, drift=2, per=3))
        for other in (Pace(2, 2, 3), Pace(1, 1, 3), Pace(1, 2, 4), None, Setting(2, speed=1, drift=2, per=3)):
            self.assertIs(pace == other, False)
            self.assertIs(pace != other, True)

    def test_paces_have_no_bounds(self):
        self.assertEqual(Pace(10 ** 30, 10 ** 30, 10 ** 30).speed, 10 ** 30)


class Common(unittest.TestCase):
    def test_examples(self):
        for box, other, part in (
                (((0, 4), (0, 4), (0, 0)), ((2, 6), (-3, 3), (0, 9)), ((2, 4), (0, 3), (0, 0))),
                (((0, 4), (0, 4), (0, 0)), ((4, 6), (0, 4), (0, 0)), ((4, 4), (0, 4), (0, 0))),
                (((0, 4), (0, 4), (0, 0)), ((5, 6), (0, 4), (0, 0)), None),
                (((0, 4), (0, 4), (0, 0)), ((0, 4), (0, 4), (1, 2)), None),
                (((0, 9), (0, 9), (0, 9)), ((3, 5), (3, 3), (9, 9)), ((3, 5), (3, 3), (9, 9))),
                (((0, 4),) * 4, ((4, 8),) * 4, ((4, 4),) * 4), (((-1, 0),), ((0, 1),), ((0, 0),))):
            self.assertEqual(common(box, other), part)
            self.assertEqual(common(other, box), part)

    def test_by_all_places(self):
        chance = dice(3)
        for _ in range(300):
            sides = chance.choice((3, 4))
            box, other = a_box(chance, sides, -4, 4), a_box(chance, sides, -4, 4)
            both = set(places_of(box)) & set(places_of(other))
            part = common(box, other)
            self.assertEqual(both, set() if part is None else set(places_of(part)))


class Narrowed(unittest.TestCase):
    def test_parts_in_order_without_those_that_have_none(self):
        layer = Layer(3, (((0, 4), (0, 4), (0, 0)), ((6, 9), (0, 4), (0, 0)), ((4, 6), (1, 2), (0, 0)),
                          ((3, 5), (2, 2), (0, 0))))
        self.assertEqual(narrowed(layer, ((2, 4), (2, 9), (-1, 1))),
                         Layer(3, (((2, 4), (2, 4), (0, 0)), ((4, 4), (2, 2), (0, 0)), ((3, 4), (2, 2), (0, 0)))))

    def test_to_nothing(self):
        layer = Layer(3, (((0, 4), (0, 4), (0, 0)),))
        told = narrowed(layer, ((0, 4), (0, 4), (1, 1)))
        self.assertEqual((told.moment, told.boxes), (3, ()))
        self.assertEqual(narrowed(Layer(-5, ()), ((0, 4), (0, 4), (1, 1))), Layer(-5, ()))

    def test_equal_parts_stay(self):
        layer = Layer(0, (((0, 4), (0, 4), (0, 0)), ((0, 5), (0, 5), (0, 0))))
        self.assertEqual(narrowed(layer, ((1, 1), (1, 1), (0, 0))).boxes, (((1, 1), (1, 1), (0, 0)),) * 2)

    def test_what_is_given_stays_as_it_is(self):
        layer = Layer(3, (((0, 4), (0, 4), (0, 0)),))
        before = copy.deepcopy(layer)
        told = narrowed(layer, ((1, 2), (0, 4), (0, 0)))
        self.assertEqual(layer, before)
        self.assertIsInstance(told.boxes, tuple)


if __name__ == "__main__":
    unittest.main()
