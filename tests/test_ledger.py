"""The ledger (points [65] to [70])."""

import copy
import unittest

from sureplace.errors import NotPinned, UnknownMoment
from sureplace.ledger.ledger import Ledger, restored
from tests.helpers import a_reading, dice, raised

A, B, C, D = [a_reading(source) for source in "abcd"]


class Writes(unittest.TestCase):
    def test_an_empty_ledger(self):
        ledger = Ledger()
        self.assertEqual((ledger.now, ledger.floor, ledger.pins, ledger.kept, ledger.entries()), (0, 0, [], 0, []))
        self.assertEqual(ledger.readings(0), [])
        self.assertIs(ledger.keeps(0), True)

    def test_writes_are_numbered(self):
        ledger = Ledger()
        self.assertEqual([ledger.put(A), ledger.put(B), ledger.correct(1, C), ledger.withdraw(2), ledger.put(A)],
                         [1, 2, 3, 4, 5])
        self.assertEqual(ledger.now, 5)
        self.assertEqual(ledger.readings(5), [(1, C), (5, A)])

    def test_readings_at_each_moment(self):
        ledger = Ledger()
        ledger.put(A), ledger.put(B), ledger.correct(1, C), ledger.withdraw(2), ledger.correct(1, C)
        due = [[], [(1, A)], [(1, A), (2, B)], [(1, C), (2, B)], [(1, C)], [(1, C)]]
        self.assertEqual([ledger.readings(moment) for moment in range(6)], due)

    def test_numbers_ascend_after_corrections(self):
        ledger = Ledger()
        for reading in (A, B, C, D):
            ledger.put(reading)
        ledger.correct(1, D), ledger.withdraw(2), ledger.correct(3, A), ledger.put(B), ledger.correct(1, A)
        self.assertEqual([number for number, _ in ledger.readings(ledger.now)], [1, 3, 4, 8])
        self.assertEqual([number for number, _ in ledger.readings(5)], [1, 2, 3, 4])
        self.assertEqual([number for number, _ in ledger.entries()], [1, 2, 3, 4, 8])

    def test_a_number_that_is_not_there(self):
        ledger = Ledger()
        ledger.put(A), ledger.put(B), ledger.withdraw(1), ledger.correct(2, C)
        before = (ledger.now, ledger.entries(), ledger.readings(4))
        for number in (0, 1, 3, 4, 5, -1, 10 ** 20):
            self.assertIsNone(ledger.correct(number, D), number)
            self.assertIsNone(ledger.withdraw(number), number)
        self.assertEqual((ledger.now, ledger.entries(), ledger.readings(4)), before)

    def test_a_withdrawn_reading_does_not_come_back(self):
        ledger = Ledger()
        ledger.put(A), ledger.withdraw(1)
        self.assertIsNone(ledger.correct(1, A))
        self.assertIsNone(ledger.withdraw(1))
        self.assertEqual((ledger.now, ledger.put(A)), (2, 3))


class Versions(unittest.TestCase):
    def test_versions(self):
        ledger = Ledger()
        ledger.put(A), ledger.put(B), ledger.correct(1, C), ledger.withdraw(2), ledger.correct(1, C)
        self.assertEqual(ledger.entries(), [(1, ((1, 3, A), (3, 5, C), (5, None, C))), (2, ((2, 4, B),))])
        self.assertEqual(ledger.kept, 4)
        self.assertEqual([type(part) for part in ledger.entries()[0]], [int, tuple])
        self.assertIs(type(ledger.entries()[0][1][0]), tuple)

    def test_the_example_of_the_document(self):
        for pinned in (False, True):
            ledger = Ledger()
            ledger.put(A)
            if pinned:
                self.assertEqual(ledger.pin(), 1)
            ledger.correct(1, B)
            self.assertEqual((ledger.readings(1), ledger.readings(2)), ([(1, A)], [(1, B)]))
            self.assertEqual(ledger.raise_floor(2), 2)
            self.assertIs(ledger.keeps(1), pinned)
            self.assertIs(raised(ledger.readings, 1), None if pinned else UnknownMoment)
            versions = ((1, 2, A), (2, None, B)) if pinned else ((2, None, B),)
            self.assertEqual(ledger.entries(), [(1, versions)])

    def test_a_version_that_died_with_the_floor(self):
        ledger = Ledger()
        ledger.put(A), ledger.put(B), ledger.withdraw(1), ledger.put(C)
        for floor, many in ((1, 3), (2, 3), (3, 2), (4, 2)):
            ledger.raise_floor(floor)
            self.assertEqual(ledger.kept, many, floor)
        self.assertEqual([number for number, _ in ledger.entries()], [2, 4])


class Kept(unittest.TestCase):
    def ledger(self):
        ledger = Ledger()
        ledger.put(A), ledger.correct(1, B), ledger.correct(1, C), ledger.correct(1, D), ledger.correct(1, A)
        return ledger

    def test_from_the_floor_to_now(self):
        ledger = self.ledger()
        ledger.raise_floor(2)
        for moment, told in ((-1, False), (0, False), (1, False), (2, True), (5, True), (6, False), (10 ** 20, False)):
            self.assertIs(ledger.keeps(moment), told, moment)
            self.assertIs(raised(ledger.readings, moment), None if told else UnknownMoment, moment)

    def test_the_floor_never_decreases_and_is_at_most_now(self):
        ledger = self.ledger()
        for moment, floor in ((0, 0), (3, 3), (1, 3), (0, 3), (4, 4), (10 ** 20, 5), (2, 5)):
            self.assertEqual(ledger.raise_floor(moment), floor)
            self.assertEqual(ledger.floor, floor)
        ledger.put(B)
        self.assertEqual(ledger.raise_floor(6), 6)
        self.assertEqual(Ledger().raise_floor(9), 0)

    def test_pins(self):
        ledger = Ledger()
        self.assertEqual(ledger.pin(), 0)
        ledger.put(A)
        self.assertEqual((ledger.pin(), ledger.pin(), ledger.pins), (1, 1, [0, 1, 1]))
        ledger.correct(1, B)
        ledger.raise_floor(2)
        self.assertEqual(ledger.pins, [0, 1, 1])
        self.assertEqual((ledger.readings(0), ledger.readings(1)), ([], [(1, A)]))
        self.assertIsNone(ledger.unpin(1))
        self.assertEqual((ledger.pins, ledger.kept, ledger.keeps(1)), ([0, 1], 2, True))
        ledger.unpin(1)
        self.assertEqual((ledger.pins, ledger.kept, ledger.keeps(1)), ([0], 1, False))
        self.assertIs(raised(ledger.unpin, 1), NotPinned)
        self.assertEqual(ledger.keeps(0), True)

    def test_unpin_removes_the_first_pin_of_the_moment(self):
        ledger = restored(3, 0, [2, 1, 3, 2, 1], [(1, ((1, None, A),))])
        ledger.unpin(1)
        self.assertEqual(ledger.pins, [2, 3, 2, 1])
        ledger.unpin(2)
        self.assertEqual(ledger.pins, [3, 2, 1])

    def test_a_moment_that_is_not_pinned(self):
        ledger = self.ledger()
        ledger.pin()
        for moment in (0, 4, 6, -1):
            self.assertIs(raised(ledger.unpin, moment), NotPinned, moment)
        self.assertEqual(ledger.pins, [5])

    def test_a_pin_that_is_not_below_the_floor_is_given_up(self):
        ledger = self.ledger()
        ledger.pin()
        ledger.unpin(5)
        self.assertEqual((ledger.kept, ledger.readings(5)), (5, [(1, A)]))

    def test_a_pinned_moment_below_the_floor_between_others(self):
        ledger = Ledger()
        ledger.put(A), ledger.put(B)
        ledger.pin()
        ledger.correct(1, C), ledger.correct(2, D), ledger.withdraw(1), ledger.put(A)
        ledger.raise_floor(6)
        self.assertEqual(ledger.entries(), [(1, ((1, 3, A),)), (2, ((2, 4, B), (4, None, D))), (6, ((6, None, A),))])
        self.assertEqual((ledger.readings(2), ledger.readings(6)), ([(1, A), (2, B)], [(2, D), (6, A)]))
        for moment in (1, 3, 4, 5):
            self.assertIs(raised(ledger.readings, moment), UnknownMoment)


class Objects(unittest.TestCase):
    def test_equal_only_to_itself(self):
        ledger = Ledger()
        self.assertTrue(ledger == ledger)
        self.assertFalse(ledger == Ledger())
        self.assertTrue(ledger != Ledger())

    def test_what_is_returned_is_new_and_stays(self):
        ledger = Ledger()
        ledger.put(A)
        ledger.pin()
        told = (ledger.pins, ledger.readings(1), ledger.entries())
        before = copy.deepcopy(told)
        ledger.put(B), ledger.correct(1, C), ledger.pin(), ledger.withdraw(2)
        self.assertEqual(told, before)
        for part in told:
            part.append(None)
        self.assertEqual((ledger.pins, ledger.readings(1)), ([1, 3], [(1, A)]))
        self.assertEqual(len(ledger.entries()), 2)

    def test_restored(self):
        pins, entries = [1, 0], [(1, ((1, 3, A), (3, None, B))), (2, ((2, 4, C),))]
        before = copy.deepcopy((pins, entries))
        ledger = restored(4, 2, pins, entries)
        self.assertEqual((ledger.now, ledger.floor, ledger.pins, ledger.kept), (4, 2, [1, 0], 3))
        self.assertEqual(ledger.entries(), entries)
        self.assertEqual([ledger.readings(moment) for moment in (0, 1, 2, 3, 4)],
                         [[], [(1, A)], [(1, A), (2, C)], [(1, B), (2, C)], [(1, B)]])
        ledger.put(D), ledger.correct(1, D), ledger.unpin(1), ledger.pin()
        self.assertEqual(ledger.readings(6), [(1, D), (5, D)])
        self.assertEqual((pins, entries), before)


class Model:
    """A ledger that keeps everything, and tells what is to be dropped."""

    def __init__(self):
        self.history = [{}]
        self.floor, self.pins, self.versions = 0, [], []

    def write(self, there):
        self.history.append(there)

    def keeps(self, moment):
        return self.floor <= moment < len(self.history) or moment in self.pins

    def entries(self):
        found = {}
        for number, born, died, reading in self.versions:
            last = len(self.history) if died is None else died
            if any(self.keeps(moment) for moment in range(born, last)):
                found.setdefault(number, []).append((born, died, reading))
        return [(number, tuple(sorted(found[number], key=lambda row: row[0]))) for number in sorted(found)]

    def end(self, number):
        now = len(self.history)
        self.versions = [(n, born, now if n == number and died is None else died, reading)
                         for n, born, died, reading in self.versions]


class AnyScripts(unittest.TestCase):
    def do(self, chance, ledger, model):
        """One call, at the ledger and at the model."""
        what, number = chance.choice(("put", "put", "correct", "correct", "withdraw", "pin", "unpin", "floor")), None
        there, now = dict(model.history[-1]), len(model.history)
        number = chance.randint(0, now)
        reading = chance.choice((A, B, C, D))
        if what == "put":
            model.versions.append((now, now, None, reading))
            model.write({**there, now: reading})
            self.assertEqual(ledger.put(reading), now)
        elif what in ("correct", "withdraw"):
            told = now if number in there else None
            if told:
                model.end(number)
                del there[number]
                if what == "correct":
                    there[number] = reading
                    model.versions.append((number, now, None, reading))
                model.write(there)
            self.assertEqual(ledger.correct(number, reading) if what == "correct" else ledger.withdraw(number), told)
        elif what == "pin":
            model.pins.append(now - 1)
            self.assertEqual(ledger.pin(), now - 1)
        elif what == "unpin":
            due = None if number in model.pins else NotPinned
            if due is None:
                model.pins.remove(number)
            self.assertIs(raised(ledger.unpin, number), due)
        else:
            number = chance.randint(0, number)
            model.floor = max(model.floor, min(number, now - 1))
            self.assertEqual(ledger.raise_floor(number), model.floor)

    def check(self, ledger, model):
        self.assertEqual((ledger.now, ledger.floor, ledger.pins), (len(model.history) - 1, model.floor, model.pins))
        self.assertEqual(ledger.entries(), model.entries())
        self.assertEqual(ledger.kept, sum(len(versions) for _, versions in model.entries()))
        for moment in range(-1, len(model.history) + 1):
            self.assertIs(ledger.keeps(moment), model.keeps(moment))
            if model.keeps(moment):
                self.assertEqual(ledger.readings(moment), sorted(model.history[moment].items()))
            else:
                self.assertIs(raised(ledger.readings, moment), UnknownMoment)

    def test_they_are_the_same_as_by_a_model(self):
        chance = dice(121)
        for _ in range(60):
            ledger, model = Ledger(), Model()
            for _ in range(30):
                self.do(chance, ledger, model)
                self.check(ledger, model)
                if chance.random() < 0.1:
                    ledger = restored(ledger.now, ledger.floor, ledger.pins, ledger.entries())


if __name__ == "__main__":
    unittest.main()
