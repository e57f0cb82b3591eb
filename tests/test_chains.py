"""Chains and barriers (points [100] to [104], and the example of point [106])."""

import copy
import itertools
import unittest

from sureplace.given.settings import Setting
from sureplace.tracks.chains import (
    alive, find, has_chain, judge_barrier, judge_chain, least_speed, linked)
from sureplace.tracks.layers import Layer, Pace
from tests.helpers import a_box, a_setting, dice
from tests.worlds import a_world

SLOW = Pace(1, 0, 1)


def at(x, y=0, clock=0):
    """A box of a single place."""
    return ((x, x), (y, y), (clock, clock))


def gap(side, other):
    return max(0, other[0] - side[1], side[0] - other[1])


def are_linked(pace, layer, other, box, there):
    """Can one go from the one box to the other one? By point [20]."""
    ticks = abs(layer.moment - other.moment)
    squares = sum(gap(side, far) ** 2 for side, far in zip(box[:-1], there[:-1]))
    return (pace.per ** 2 * squares <= (pace.speed * ticks) ** 2
            and pace.per * gap(box[-1], there[-1]) <= pace.drift * ticks)


def all_chains(pace, layers):
    """All chains, in ascending order, by looking at all tuples of places."""
    found = []
    for places in itertools.product(*[range(len(layer.boxes)) for layer in layers]):
        steps = zip(layers, layers[1:], places, places[1:])
        if all(are_linked(pace, layer, other, layer.boxes[place], other.boxes[after])
               for layer, other, place, after in steps):
            found.append(places)
    return found


def some_layers(chance, many, *, most=4, dims=2, low=-9, high=9):
    """So many layers, with up to so many boxes."""
    moments = sorted(chance.sample(range(-20, 20), many))
    return [Layer(moment, tuple(a_box(chance, dims + 1, low, high, 3) for _ in range(chance.randint(1, most))))
            for moment in moments]


def a_pace(chance):
    return Pace(chance.randint(0, 5), chance.randint(0, 4), chance.randint(1, 3))


class Example(unittest.TestCase):
    """The example of point [106], as far as it is about layers."""

    def layers(self, y):
        return [Layer(0, (at(0),)), Layer(3, (at(3), at(0, 4))), Layer(5, (at(5) if y is None else at(0, y),))]

    def test_the_only_chain(self):
        layers = self.layers(None)
        self.assertEqual(linked(SLOW, layers[0], layers[1]), [(0,)])
        self.assertEqual(all_chains(SLOW, layers), [(0, 0, 0)])
        self.assertEqual(find(SLOW, layers), ("chain", (0, 0, 0)))
        self.assertEqual(alive(SLOW, layers), [(0,), (0,), (0,)])
        self.assertIs(has_chain(SLOW, layers), True)
        self.assertEqual(least_speed(SLOW, layers), 1)

    def test_the_barrier(self):
        layers = self.layers(6)
        self.assertEqual(find(SLOW, layers), ("barrier", ((0,), (0,), ())))
        self.assertIs(judge_barrier(SLOW, layers, ((0,), (0,), ())), True)
        self.assertEqual(alive(SLOW, layers), [(), (), ()])
        self.assertIs(has_chain(SLOW, layers), False)
        self.assertEqual(least_speed(SLOW, layers), 2)


class Linked(unittest.TestCase):
    def test_exactly_as_far_as_one_can_go(self):
        for speed, per, x, y, told in ((1, 1, 5, 0, True), (1, 1, 6, 0, False), (1, 1, 3, 4, True), (1, 1, 4, 4, False),
                                       (3, 2, 7, 0, True), (3, 2, 8, 0, False), (0, 1, 0, 0, True),
                                       (0, 1, 1, 0, False)):
            one, other = Layer(10, (at(0),)), Layer(15, (at(x, y),))
            for first, second in ((one, other), (other, one)):
                self.assertEqual(linked(Pace(speed, 0, per), first, second), [(0,) if told else ()], (speed, x, y))

    def test_the_clocks(self):
        for drift, per, clock, told in ((1, 1, 5, True), (1, 1, 6, False), (3, 2, 7, True), (3, 2, 8, False)):
            one, other = Layer(0, (at(0),)), Layer(5, (at(0, 0, -clock),))
            self.assertEqual(linked(Pace(99, drift, per), one, other), [(0,) if told else ()], clock)

    def test_places_ascend(self):
        one = Layer(0, (at(0), at(9), at(50)))
        other = Layer(5, (at(9), at(1), ((-9, 9), (0, 0), (0, 0)), at(4), at(9)))
        self.assertEqual(linked(SLOW, one, other), [(1, 2, 3), (0, 2, 3, 4), ()])
        self.assertEqual(linked(SLOW, one, Layer(5, ())), [(), (), ()])
        self.assertEqual(linked(SLOW, Layer(5, ()), one), [])

    def test_no_number_is_too_large(self):
        far = 10 ** 40
        one, other = Layer(0, (at(0),)), Layer(far, (at(far ** 2), at(far ** 2 + 1)))
        self.assertEqual(linked(Pace(far, 0, 1), one, other), [(0,)])

    def test_by_the_definition(self):
        chance = dice(1)
        for _ in range(200):
            pace, (one, other) = a_pace(chance), some_layers(chance, 2, dims=chance.choice((2, 3)))
            for first, second in ((one, other), (other, one)):
                due = [tuple(place for place, there in enumerate(second.boxes)
                             if are_linked(pace, first, second, box, there)) for box in first.boxes]
                self.assertEqual(linked(pace, first, second), due)


class Edges(unittest.TestCase):
    def test_no_layers(self):
        self.assertEqual(find(SLOW, []), ("chain", ()))
        self.assertEqual((alive(SLOW, []), least_speed(SLOW, [])), ([], 0))
        self.assertIs(has_chain(SLOW, []), True)
        self.assertIs(judge_chain(SLOW, [], ()), True)
        self.assertIs(judge_chain(SLOW, [], (0,)), False)
        for marks in ((), ((),)):
            self.assertIs(judge_barrier(SLOW, [], marks), False)

    def test_one_layer(self):
        layers = [Layer(0, (at(3), at(5)))]
        self.assertEqual(find(SLOW, layers), ("chain", (0,)))
        self.assertEqual((alive(SLOW, layers), least_speed(SLOW, layers)), ([(0, 1)], 0))
        for chain, told in (((0,), True), ((1,), True), ((2,), False), ((-1,), False), ((), False), ((0, 0), False)):
            self.assertIs(judge_chain(SLOW, layers, chain), told, chain)
        for marks in (((0, 1),), ((),), ((0,),), ()):
            self.assertIs(judge_barrier(SLOW, layers, marks), False, marks)

    def test_a_layer_without_boxes(self):
        full = [Layer(moment, (at(0), at(1))) for moment in (0, 1, 2)]
        for place, marks in ((0, ((), (), ())), (1, ((0, 1), (), ())), (2, ((0, 1), (0, 1), ()))):
            layers = list(full)
            layers[place] = Layer(place, ())
            self.assertEqual(find(SLOW, layers), ("barrier", marks))
            self.assertIs(judge_barrier(SLOW, layers, marks), True)
            self.assertEqual(alive(SLOW, layers), [(), (), ()])
            self.assertIs(has_chain(SLOW, layers), False)
            self.assertIsNone(least_speed(SLOW, layers))
            self.assertIs(judge_chain(SLOW, layers, (0, 0, 0)), False)
        self.assertEqual(find(SLOW, [Layer(0, ())]), ("barrier", ((),)))
        self.assertIs(judge_barrier(SLOW, [Layer(0, ())], ((),)), True)
        self.assertIsNone(least_speed(SLOW, [Layer(0, ())]))

    def test_the_first_chain(self):
        layers = [Layer(0, (at(50), at(4), at(0))), Layer(4, (at(90), at(8), at(2))), Layer(5, (at(8), at(2)))]
        # The second box leads to two others; the one with the lesser place leads on.
        self.assertEqual(find(SLOW, layers), ("chain", (1, 1, 0)))
        layers[2] = Layer(5, (at(70), at(2)))
        self.assertEqual(find(SLOW, layers), ("chain", (1, 2, 1)))


class Marks(unittest.TestCase):
    LAYERS = [Layer(0, (at(0), at(9))), Layer(3, (at(3), at(20), at(8))), Layer(5, (at(20, 20),))]

    def accepted(self, *marks):
        told = judge_barrier(SLOW, self.LAYERS, marks)
        self.assertIs(type(told), bool)
        return told

    def test_what_has_to_be_marked(self):
        self.assertEqual(find(SLOW, self.LAYERS), ("barrier", ((0, 1), (0, 2), ())))
        self.assertIs(self.accepted((0, 1), (0, 2), ()), True)
        self.assertIs(self.accepted((1, 0), (2, 0, 2, 0), ()), True)
        for marks in (((0,), (0, 2), ()), ((1,), (0, 2), ()), ((0, 1), (0,), ()), ((0, 1), (2,), ()),
                      ((0, 1), (), ()), ((0, 1), (0, 2), (0,)), ((0, 1), (0, 2)), ((0, 1), (0, 2), (), ()), ()):
            self.assertIs(self.accepted(*marks), False, marks)

    def test_others_may_be_marked(self):
        self.assertIs(self.accepted((0, 1, 2, -1, 10 ** 30), (0, 2, 3, 99, -3), ()), True)
        # A box that cannot be reached may be marked, but then what is linked with it is to be marked, too.
        self.assertIs(self.accepted((0, 1), (0, 1, 2), ()), True)
        layers = self.LAYERS[:2] + [Layer(5, (at(20, 2),))]
        self.assertIs(judge_barrier(SLOW, layers, ((0, 1), (0, 2), ())), True)
        self.assertIs(judge_barrier(SLOW, layers, ((0, 1), (0, 1, 2), ())), False)

    def test_numbers_that_are_no_place_mark_nothing(self):
        # The place -2 would be that of the box at 20.
        layers = self.LAYERS[:2] + [Layer(5, (at(20, 2),))]
        self.assertIs(judge_barrier(SLOW, layers, ((0, 1), (0, 2, -2, 3), ())), True)
        self.assertIs(self.accepted((-1, -2), (0, 2), ()), False)
        layers[1] = Layer(3, (at(3), at(8), at(20)))
        self.assertIs(judge_barrier(SLOW, layers, ((0, 1), (0, 1, -1, 3), ())), True)
        self.assertIs(judge_barrier(SLOW, layers, ((0, 1), (0, 1, 2), ())), False)

    def test_the_last_marks_are_empty(self):
        for last in ((0,), (1,), (-1,), (5,)):
            self.assertIs(self.accepted((0, 1), (0, 2), last), False, last)


class LeastSpeed(unittest.TestCase):
    def test_exactly(self):
        for x, y, ticks, per, speed in ((5, 0, 5, 1, 1), (6, 0, 5, 1, 2), (3, 4, 5, 1, 1), (4, 4, 5, 1, 2),
                                        (0, 0, 5, 1, 0), (1, 0, 100, 1, 1), (1, 0, 100, 7, 1), (7, 0, 2, 3, 11),
                                        (1, 1, 1, 1, 2), (1, 1, 1, 1000, 1415)):
            layers = [Layer(0, (at(0),)), Layer(ticks, (at(x, y),))]
            self.assertEqual(least_speed(Pace(0, 0, per), layers), speed, (x, y))
            self.assertEqual(least_speed(Pace(10 ** 9, 0, per), layers), speed)
            self.assertIs(has_chain(Pace(speed, 0, per), layers), True)
            self.assertIs(speed > 0 and has_chain(Pace(speed - 1, 0, per), layers), False)

    def test_large_numbers(self):
        far = 10 ** 50
        layers = [Layer(-far, (at(0),)), Layer(far, (at(far ** 2, 1),))]
        speed = least_speed(Pace(0, 0, 3), layers)
        self.assertIs(has_chain(Pace(speed, 0, 3), layers), True)
        self.assertIs(has_chain(Pace(speed - 1, 0, 3), layers), False)

    def test_clocks_that_are_too_far_apart(self):
        layers = [Layer(0, (at(0),)), Layer(5, (at(1, 0, 11),))]
        self.assertIsNone(least_speed(Pace(0, 2, 1), layers))
        self.assertIsNone(least_speed(Pace(0, 4, 2), layers))
        self.assertEqual(least_speed(Pace(0, 11, 5), layers), 1)
        # Far away there is a box that one can go to in time.
        layers[1] = Layer(5, (at(1, 0, 11), at(50, 0, 10)))
        self.assertEqual(least_speed(Pace(0, 2, 1), layers), 10)

    def test_the_slowest_of_several_ways(self):
        layers = [Layer(0, (at(0), at(100))), Layer(1, (at(3), at(10), at(104))), Layer(2, (at(12), at(105)))]
        self.assertEqual(least_speed(SLOW, layers), 4)
        layers[2] = Layer(2, (at(12), at(120)))
        self.assertEqual(least_speed(SLOW, layers), 9)


class ByAllChains(unittest.TestCase):
    def check(self, pace, layers):
        chains = all_chains(pace, layers)
        told = find(pace, layers)
        self.assertIs(has_chain(pace, layers), bool(chains))
        self.assertEqual(alive(pace, layers), [tuple(sorted({chain[k] for chain in chains}))
                                               for k in range(len(layers))])
        for chain in itertools.product(*[range(-1, len(layer.boxes) + 1) for layer in layers]):
            self.assertIs(judge_chain(pace, layers, chain), chain in chains)
        marks = tuple(tuple(sorted({chain[-1] for chain in all_chains(pace, layers[:k + 1])}))
                      for k in range(len(layers)))
        if chains:
            self.assertEqual(told, ("chain", chains[0]))
            self.assertIs(judge_barrier(pace, layers, marks[:-1] + ((),)), False)
        else:
            self.assertEqual(told, ("barrier", marks))
            self.assertIs(judge_barrier(pace, layers, marks), True)
        return bool(chains)

    def test_small_layers(self):
        chance = dice(2)
        counts = {True: 0, False: 0}
        for _ in range(300):
            layers = some_layers(chance, chance.randint(1, 4), most=3, dims=chance.choice((2, 3)), low=-6, high=6)
            counts[self.check(a_pace(chance), layers)] += 1
        self.assertGreater(min(counts.values()), 60)

    def test_the_least_speed(self):
        chance = dice(3)
        counts = {True: 0, False: 0}
        for _ in range(200):
            layers = some_layers(chance, chance.randint(1, 4), most=3)
            pace = a_pace(chance)
            due = [speed for speed in range(80) if all_chains(Pace(speed, pace.drift, pace.per), layers)][:1]
            self.assertEqual(least_speed(pace, layers), due[0] if due else None)
            counts[bool(due)] += 1
        self.assertGreater(min(counts.values()), 20)

    def test_barriers_and_chains_never_both(self):
        chance = dice(4)
        counts = {True: 0, False: 0}
        for _ in range(400):
            layers = some_layers(chance, 3, most=2)
            pace = Pace(chance.randint(0, 3), 9, 1)
            some = [tuple(chance.sample(range(-1, 3), chance.randint(0, 4))) for _ in layers[:-1]] + [()]
            accepted = judge_barrier(pace, layers, tuple(some))
            counts[accepted] += 1
            self.assertFalse(accepted and all_chains(pace, layers))
        self.assertGreater(min(counts.values()), 20)

    def test_a_setting_is_a_pace(self):
        chance = dice(5)
        for _ in range(50):
            pace, layers = a_pace(chance), some_layers(chance, 3)
            setting = Setting(2, speed=pace.speed, drift=pace.drift, per=pace.per)
            for told in (find, alive, has_chain):
                self.assertEqual(told(setting, layers), told(pace, layers))
            self.assertEqual(linked(setting, layers[0], layers[1]), linked(pace, layers[0], layers[1]))
            self.assertEqual(judge_chain(setting, layers, (0, 0, 0)), judge_chain(pace, layers, (0, 0, 0)))

    def test_what_is_given_stays_and_what_is_returned_too(self):
        chance = dice(6)
        for _ in range(30):
            pace, layers = a_pace(chance), some_layers(chance, 3)
            before = copy.deepcopy(layers)
            told = [find(pace, layers), alive(pace, layers), linked(pace, layers[0], layers[1])]
            again = copy.deepcopy(told)
            least_speed(pace, layers), has_chain(pace, layers), alive(pace, layers).append(None)
            self.assertEqual(layers, before)
            self.assertEqual(told, again)

    def test_many_boxes(self):
        layers = [Layer(moment, tuple(at(x, moment) for x in range(40))) for moment in range(30)]
        self.assertEqual(find(SLOW, layers), ("chain", (0,) * 30))
        self.assertEqual(alive(SLOW, layers), [tuple(range(40))] * 30)
        self.assertEqual(least_speed(SLOW, layers), 1)
        self.assertIs(has_chain(Pace(0, 0, 1), layers), False)


class Worlds(unittest.TestCase):
    """Point [104]: a world that is in a box of each layer makes a chain."""

    def test_worlds(self):
        for seed in range(150):
            chance = dice(seed)
            setting = a_setting(chance.choice((2, 3)), speed=chance.choice((1, 5)), drift=chance.randint(0, 1), per=1)
            world = a_world(chance, setting, 12)
            layers, chain = [], []
            for moment in sorted(chance.sample(range(12), chance.randint(1, 6))):
                here = world[moment][0] + (world[moment][1],)
                boxes = [a_box(chance, setting.dims + 1) for _ in range(chance.randint(0, 4))]
                boxes.append(tuple((n - chance.randint(0, 2), n + chance.randint(0, 2)) for n in here))
                chance.shuffle(boxes)
                layers.append(Layer(moment, tuple(boxes)))
                chain.append(next(k for k, box in enumerate(boxes)
                                  if all(low <= n <= high for n, (low, high) in zip(here, box))))
            self.assertIs(judge_chain(setting, layers, tuple(chain)), True)
            self.assertTrue(all(place in living for place, living in zip(chain, alive(setting, layers))))
            self.assertEqual(find(setting, layers)[0], "chain")
            self.assertIs(has_chain(setting, layers), True)
            pace = Pace(setting.speed, setting.drift, setting.per)
            self.assertLessEqual(least_speed(pace, layers), setting.speed)


if __name__ == "__main__":
    unittest.main()
