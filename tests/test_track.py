"""Tracks (points [104] to [106])."""

import copy
import unittest

from sureplace.errors import UnknownMoment
from sureplace.tracks.chains import alive, find, has_chain
from sureplace.tracks.layers import Layer, Pace, narrowed
from sureplace.tracks.track import Track
from tests.helpers import a_box, a_setting, dice, raised
from tests.worlds import a_world

SLOW = Pace(1, 0, 1)


def at(x, y=0, clock=0):
    """A box of a single place."""
    return ((x, x), (y, y), (clock, clock))


class Example(unittest.TestCase):
    """The example of point [106]."""

    def test_the_example(self):
        track = Track(SLOW)
        # The order of the calls does not matter.
        track.put(5, (at(5),)), track.put(0, (at(0),)), track.put(3, (at(3), at(0, 4)))
        self.assertEqual(track.times, [0, 3, 5])
        self.assertEqual(track.shown(), ("chain", (0, 0, 0)))
        self.assertIs(track.possible(), True)
        self.assertEqual([track.alive(moment) for moment in (0, 3, 5)], [(at(0),), (at(3),), (at(5),)])
        self.assertEqual(track.boxes(3), (at(3), at(0, 4)))
        track.put(5, (at(0, 6),))
        self.assertEqual(track.shown(), ("barrier", ((0,), (0,), ())))
        self.assertIs(track.possible(), False)
        self.assertEqual([track.alive(moment) for moment in (0, 3, 5)], [(), (), ()])


class Calls(unittest.TestCase):
    def test_at_first(self):
        track = Track(SLOW)
        self.assertEqual((track.pace, track.times, track.shown(), track.possible()), (SLOW, [], ("chain", ()), True))

    def test_a_moment_that_is_not_there(self):
        track = Track(SLOW)
        for _ in range(2):
            for moment in (0, 1, -3, 10 ** 20):
                for call, arguments in ((track.drop, ()), (track.narrow, (at(0),)), (track.boxes, ()),
                                        (track.alive, ())):
                    self.assertIs(raised(call, moment, *arguments), UnknownMoment)
            self.assertIsNone(track.put(7, (at(0),)))
            self.assertIsNone(track.put(0, (at(0),)))
            self.assertIsNone(track.drop(0))
        self.assertEqual(track.times, [7])
        self.assertIsNone(track.drop(7))
        self.assertIs(raised(track.drop, 7), UnknownMoment)
        self.assertEqual((track.times, track.shown()), ([], ("chain", ())))

    def test_narrowed_to_nothing(self):
        track = Track(SLOW)
        track.put(0, (((0, 4), (0, 0), (0, 0)), ((2, 9), (0, 0), (0, 0)))), track.put(5, (at(9),))
        self.assertIsNone(track.narrow(0, ((1, 3), (0, 0), (0, 0))))
        self.assertEqual(track.boxes(0), (((1, 3), (0, 0), (0, 0)), ((2, 3), (0, 0), (0, 0))))
        self.assertIs(track.possible(), False)
        track.put(5, (at(8),))
        self.assertIs(track.possible(), True)
        track.narrow(0, at(4)), track.narrow(0, at(4))
        self.assertEqual((track.boxes(0), track.alive(0), track.alive(5), track.times), ((), (), (), [0, 5]))
        self.assertEqual(track.shown(), ("barrier", ((), ())))
        self.assertIs(track.possible(), False)
        track.drop(0)
        self.assertEqual(track.shown(), ("chain", (0,)))

    def test_a_layer_without_boxes(self):
        track = Track(SLOW)
        track.put(0, ()), track.put(3, (at(0),))
        self.assertEqual((track.times, track.boxes(0), track.shown()), ([0, 3], (), ("barrier", ((), ()))))
        track.put(0, (at(1),))
        self.assertEqual(track.shown(), ("chain", (0, 0)))

    def test_alive_boxes_are_in_order_and_equal_ones_stay(self):
        track = Track(SLOW)
        track.put(0, (at(3), at(50), at(0), at(3))), track.put(2, (at(2),))
        self.assertEqual(track.alive(0), (at(3), at(0), at(3)))

    def test_what_was_returned_stays(self):
        track = Track(SLOW)
        track.put(0, (at(0), at(1))), track.put(2, (at(0),))
        told = [track.times, track.boxes(0), track.alive(0), track.shown()]
        before = copy.deepcopy(told)
        track.times.append(9)
        track.narrow(0, at(1)), track.drop(2), track.put(1, (at(50),))
        self.assertEqual(told, before)

    def test_equal_only_to_itself(self):
        track = Track(SLOW)
        self.assertTrue(track == track)
        self.assertFalse(track == Track(SLOW))
        self.assertTrue(track != Track(SLOW))


class AsIfGivenAtOnce(unittest.TestCase):
    def check(self, track, layers):
        listed = [layers[moment] for moment in sorted(layers)]
        self.assertEqual(track.times, sorted(layers))
        self.assertIs(track.possible(), has_chain(track.pace, listed))
        self.assertEqual(track.shown(), find(track.pace, listed))
        for layer, places in zip(listed, alive(track.pace, listed)):
            self.assertEqual(track.boxes(layer.moment), layer.boxes)
            self.assertEqual(track.alive(layer.moment), tuple(layer.boxes[place] for place in places))
        return track.possible()

    def test_any_calls(self):
        counts = {True: 0, False: 0}
        for seed in range(40):
            chance = dice(seed)
            dims = chance.choice((2, 3))
            pace = a_setting(dims, speed=chance.randint(2, 9), drift=4, per=1)
            if seed % 2:
                pace = Pace(chance.randint(2, 9), 4, 1)
            track, layers = Track(pace), {}
            for _ in range(50):
                moment, what = chance.randint(-6, 12), chance.random()
                if what < 0.5 or len(layers) < 2:
                    boxes = tuple(a_box(chance, dims + 1) for _ in range(chance.randint(1, 4)))
                    track.put(moment, boxes)
                    layers[moment] = Layer(moment, boxes)
                elif moment not in layers:
                    self.assertIs(raised(track.drop, moment), UnknownMoment)
                elif what < 0.75:
                    track.drop(moment)
                    del layers[moment]
                else:
                    box = a_box(chance, dims + 1, -9, 0, 12)
                    track.narrow(moment, box)
                    layers[moment] = narrowed(layers[moment], box)
                counts[self.check(track, layers)] += 1
        self.assertGreater(min(counts.values()), 250, counts)

    def test_worlds(self):
        """The way of a world stays on its track."""
        for seed in range(60):
            chance = dice(seed)
            setting = a_setting(2, speed=chance.choice((1, 5)), drift=chance.randint(0, 1), per=1)
            world = a_world(chance, setting, 12)
            track = Track(setting)
            for _ in range(20):
                moment = chance.randrange(12)
                here = world[moment][0] + (world[moment][1],)
                around = tuple((n - chance.randint(0, 4), n + chance.randint(0, 4)) for n in here)
                if chance.random() < 0.6 or moment not in track.times:
                    boxes = [a_box(chance, 3) for _ in range(chance.randint(0, 3))] + [around]
                    chance.shuffle(boxes)
                    track.put(moment, tuple(boxes))
                else:
                    track.narrow(moment, around)
                self.assertIs(track.possible(), True)
                for time in track.times:
                    place = world[time][0] + (world[time][1],)
                    self.assertTrue(any(all(low <= n <= high for n, (low, high) in zip(place, box))
                                        for box in track.alive(time)))


if __name__ == "__main__":
    unittest.main()
