"""Receivers (points [71] and [78] to [83])."""

import copy
import unittest

from sureplace.errors import (
    InvalidAddress, InvalidQuestion, InvalidReading, NotPinned, UnknownMoment, UnknownQuestion)
from sureplace.given.readings import says_as_much
from sureplace.judge.papers import Known, Paper, judge_known, judge_paper
from sureplace.ledger.ledger import Ledger
from sureplace.numbers.boxes import cell_at, halves, is_small
from sureplace.search.plans import Plan
from sureplace.search.searching import search
from sureplace.standing.receiver import Receiver, Write
from sureplace.standing.watch import Watch
from sureplace.witness.judging import judge_witness
from sureplace.witness.ways import Witness
from tests.busy import moved
from tests.helpers import a_question, a_reading, a_setting, dice, raised, says_x
from tests.promises import check_found
from tests.worlds import SOURCES, a_true_reading, a_world, holds, make_up, some_liars

STILL = a_setting(speed=0, drift=0, per=1)
LINE = ((0, 8), (0, 0), (0, 0))
KEEP = (("kept", 0),)
ONE = ((0, ()),)


def at(x):
    return Witness((), ((0, x, 0, 0),))


def a_line_question(**more):
    return a_question(0, LINE, liars=0, share=2, **more)


class Writes(unittest.TestCase):
    def test_the_fields(self):
        write = Write(3, [(1, ["0"])])
        self.assertEqual((write.number, write.fallen), (3, [(1, ["0"])]))
        self.assertEqual(write, Write(number=3, fallen=[(1, ["0"])]))
        for other in (Write(4, [(1, ["0"])]), Write(3, []), None, 3, (3, [(1, ["0"])])):
            self.assertIs(write == other, False)
            self.assertIs(write != other, True)

    def test_numbers(self):
        receiver = Receiver(STILL)
        reading = says_x("a", 0, 9)
        self.assertEqual([receiver.put(reading), receiver.put(reading), receiver.correct(1, reading),
                          receiver.withdraw(2), receiver.put(reading)], [Write(k, []) for k in (1, 2, 3, 4, 5)])
        self.assertEqual(receiver.there(), [(1, reading), (5, reading)])

    def test_what_falls_is_told(self):
        receiver = Receiver(STILL)
        receiver.put(says_x("a", 9, 9)), receiver.put(says_x("b", 0, 99))
        for _ in range(4):
            receiver.ask(a_line_question())
        receiver.end(2)
        for number, addresses in ((1, ("11", "0", "101")), (3, ()), (4, ("1",))):
            for address in addresses:
                self.assertIs(receiver.refute(number, address, ((("reading", 1),),), ONE), True)
        self.assertEqual(receiver.put(says_x("c", 0, 99)), Write(3, []))
        self.assertEqual(receiver.correct(2, says_x("b", 1, 99)), Write(4, []))
        self.assertEqual(receiver.correct(1, says_x("a", 8, 9)), Write(5, [(1, ["11"]), (4, ["1"])]))
        self.assertEqual(receiver.withdraw(1), Write(6, [(1, ["0", "101"])]))
        self.assertEqual(receiver.withdraw(2), Write(7, []))
        self.assertEqual(receiver.verdicts(4), [("0", ((0, 4), (0, 0), (0, 0)), "open"),
                                                ("1", ((4, 8), (0, 0), (0, 0)), "open")])

    def test_what_is_in_can_fall_when_a_reading_is_put(self):
        receiver = Receiver(STILL)
        receiver.ask(a_line_question())
        self.assertIs(receiver.reach(1, "01", at(3)), True)
        self.assertEqual(receiver.put(says_x("c", 60, 99)), Write(1, [(1, ["01"])]))


class Refused(unittest.TestCase):
    def test_a_reading_that_does_not_fit(self):
        receiver = Receiver(STILL)
        receiver.put(says_x("a", 0, 9))
        for kind in (("range", (0, 0, 0)), ("side", (1, 0, 0)), ("boxes", (((0, 1),) * 3,)),
                     ("differ", (0, 0), (0, 0, 0))):
            wrong = a_reading("a", 0, kind)
            self.assertIs(raised(receiver.put, wrong), InvalidReading)
            for number in (1, 2):
                self.assertIs(raised(receiver.correct, number, wrong), InvalidReading)
        self.assertEqual((receiver.ledger.now, len(receiver.there())), (1, 1))
        self.assertIs(raised(Receiver(a_setting(3)).put, says_x("a", 0, 9)), InvalidReading)

    def test_a_number_that_is_not_there(self):
        receiver = Receiver(STILL)
        receiver.put(says_x("a", 0, 9)), receiver.put(says_x("a", 0, 9)), receiver.withdraw(1)
        for number in (0, 1, 3, 4, -1):
            self.assertIsNone(receiver.correct(number, says_x("a", 0, 9)), number)
            self.assertIsNone(receiver.withdraw(number), number)
        self.assertEqual((receiver.ledger.now, receiver.there()), (3, [(2, says_x("a", 0, 9))]))

    def test_at_most_1000_readings(self):
        receiver = Receiver(STILL)
        for number in range(1, 1001):
            self.assertEqual(receiver.put(says_x("a", 0, 9)).number, number)
        self.assertIsNone(receiver.put(says_x("a", 0, 9)))
        self.assertEqual((receiver.ledger.now, len(receiver.there())), (1000, 1000))
        self.assertEqual(receiver.correct(7, says_x("b", 0, 9)).number, 1001)
        self.assertEqual(receiver.withdraw(7).number, 1002)
        self.assertEqual(receiver.put(says_x("a", 0, 9)).number, 1003)
        self.assertIsNone(receiver.put(says_x("a", 0, 9)))

    def test_at_most_32_sources(self):
        receiver = Receiver(STILL)
        for number in range(32):
            receiver.put(says_x(f"n{number}", 0, 9))
        self.assertIsNone(receiver.put(says_x("other", 0, 9)))
        self.assertEqual(receiver.put(says_x("n7", 0, 9)).number, 33)
        # n7 has two readings now.
        self.assertIsNone(receiver.correct(8, says_x("other", 0, 9)))
        self.assertEqual(receiver.correct(9, says_x("other", 0, 9)).number, 34)
        self.assertIsNone(receiver.put(says_x("n8", 0, 9)))
        self.assertEqual(receiver.withdraw(1).number, 35)
        self.assertEqual(receiver.put(says_x("n8", 0, 9)).number, 36)
        self.assertIsNone(receiver.correct(99, says_x("another", 0, 9)))
        self.assertEqual(receiver.ledger.now, 36)

    def test_questions_that_do_not_fit(self):
        receiver = Receiver(STILL)
        for sides, told in ((3, None), (2, InvalidQuestion), (4, InvalidQuestion)):
            self.assertIs(raised(receiver.ask, a_question(root=((0, 8),) * sides)), told)
        self.assertEqual((receiver.questions, receiver.next_number), ([1], 2))


class Questions(unittest.TestCase):
    def test_numbers(self):
        receiver = Receiver(STILL)
        self.assertEqual((receiver.questions, receiver.next_number), ([], 1))
        questions = [a_line_question(earliest=-number) for number in range(4)]
        self.assertEqual([receiver.ask(question) for question in questions], [1, 2, 3, 4])
        self.assertIsNone(receiver.end(4))
        self.assertIsNone(receiver.end(2))
        self.assertEqual((receiver.questions, receiver.next_number), ([1, 3], 5))
        self.assertEqual(receiver.ask(questions[0]), 5)
        self.assertEqual(receiver.questions, [1, 3, 5])
        self.assertEqual([receiver.question(number) for number in (1, 3, 5)],
                         [questions[0], questions[2], questions[0]])
        receiver.questions.append(7)
        self.assertEqual(receiver.questions, [1, 3, 5])

    def test_questions_that_do_not_stand(self):
        receiver = Receiver(STILL)
        receiver.ask(a_line_question()), receiver.ask(a_line_question())
        receiver.end(1)
        thing = Known(0, (LINE,), KEEP)
        for number in (0, 1, 3, -2, 10 ** 20):
            for call, arguments in (
                    (receiver.end, ()), (receiver.learn, (thing,)), (receiver.refute, ("", (), ())),
                    (receiver.reach, ("", at(1))), (receiver.question, ()), (receiver.known, ()),
                    (receiver.verdicts, ()), (receiver.paper, ("",)), (receiver.witness, ("",)),
                    (receiver.watch, ()), (receiver.refute, ("x", (), ())), (receiver.reach, ("x", at(1))),
                    (receiver.paper, ("x",)), (receiver.witness, ("2",))):
                self.assertIs(raised(call, number, *arguments), UnknownQuestion, number)

    def test_addresses(self):
        receiver = Receiver(STILL)
        receiver.ask(a_line_question())
        for address in ("2", "x", "0a", " ", "01 ", "0" * 241, "1" * 241, "\n"):
            for call, arguments in ((receiver.refute, ((), ())), (receiver.reach, (at(1),)), (receiver.paper, ()),
                                    (receiver.witness, ())):
                self.assertIs(raised(call, 1, address, *arguments), InvalidAddress, address)
        for address in ("", "0", "1" * 240):
            self.assertIs(receiver.refute(1, address, (), ()), False)
            self.assertIs(receiver.reach(1, address, at(9)), False)
            self.assertIsNone(receiver.paper(1, address))
            self.assertIsNone(receiver.witness(1, address))


class Offers(unittest.TestCase):
    def receiver(self):
        receiver = Receiver(STILL)
        receiver.put(says_x("a", 3, 9)), receiver.put(says_x("b", -9, 4)), receiver.put(says_x("c", 6, 8))
        receiver.ask(a_line_question()), receiver.ask(a_line_question())
        return receiver

    def test_they_go_to_the_question_with_the_number(self):
        receiver = self.receiver()
        thing = Known(0, ((((4, 8), (0, 0), (0, 0))),), (("cut", 0, 4), ("reading", 3), ("kept", 0)))
        self.assertEqual(receiver.learn(2, thing), 0)
        self.assertEqual((receiver.known(1), receiver.known(2)), ([], [thing]))
        self.assertIs(receiver.refute(1, "00", ((("known", 0),),), ONE), False)
        self.assertIs(receiver.refute(2, "00", ((("known", 0),),), ONE), True)
        self.assertIs(receiver.reach(1, "01", at(3)), True)
        self.assertEqual(receiver.paper(2, "00"), Paper((thing,), ((("known", 0),),), ONE))
        self.assertEqual(receiver.witness(1, "01"), at(3))
        self.assertEqual((receiver.paper(1, "00"), receiver.witness(2, "01")), (None, None))
        self.assertEqual(receiver.verdicts(1), [("00", ((0, 2), (0, 0), (0, 0)), "open"),
                                                ("01", ((2, 4), (0, 0), (0, 0)), "in"),
                                                ("1", ((4, 8), (0, 0), (0, 0)), "open")])
        self.assertEqual([(address, verdict) for address, _, verdict in receiver.verdicts(2)],
                         [("00", "out"), ("01", "open"), ("1", "open")])
        self.assertEqual(list(receiver.watch(2).cells()), [("00", "out"), ("01", "open"), ("1", "open")])
        self.assertIsInstance(receiver.watch(2), Watch)

    def test_lists_are_new(self):
        receiver = self.receiver()
        for told in (receiver.known(1), receiver.verdicts(1), receiver.there(), receiver.questions):
            self.assertIs(type(told), list)
            told.append(None)
        self.assertEqual((receiver.known(1), len(receiver.verdicts(1)), len(receiver.there())), ([], 1, 3))

    def test_what_was_returned_stays(self):
        receiver = self.receiver()
        receiver.learn(1, Known(0, (), (("cut", 0, 5), ("reading", 3), ("reading", 2))))
        receiver.refute(1, "11", ((("reading", 2),),), ONE)
        told = [receiver.known(1), receiver.verdicts(1), receiver.there(), receiver.paper(1, "11"),
                receiver.questions]
        before = copy.deepcopy(told)
        write = receiver.withdraw(2)
        self.assertEqual(write, Write(4, [(1, ["11"])]))
        receiver.end(1), receiver.correct(1, says_x("a", 0, 1))
        self.assertEqual(told, before)
        self.assertEqual(write, Write(4, [(1, ["11"])]))


class LedgerOfTheReceiver(unittest.TestCase):
    def test_pins_and_the_floor(self):
        receiver = Receiver(STILL)
        self.assertIsInstance(receiver.ledger, Ledger)
        self.assertEqual(receiver.setting, STILL)
        receiver.put(says_x("a", 0, 9))
        self.assertEqual(receiver.pin(), 1)
        receiver.correct(1, says_x("a", 1, 9))
        self.assertEqual(receiver.raise_floor(9), 2)
        self.assertEqual(receiver.ledger.readings(1), [(1, says_x("a", 0, 9))])
        self.assertIsNone(receiver.unpin(1))
        self.assertIs(raised(receiver.unpin, 1), NotPinned)
        self.assertIs(raised(receiver.ledger.readings, 1), UnknownMoment)
        self.assertEqual((receiver.raise_floor(0), receiver.ledger.pins, receiver.ledger.kept), (2, [], 1))

    def test_a_read_moment_does_not_change_what_is_judged(self):
        receiver = Receiver(STILL)
        receiver.put(says_x("a", 9, 9)), receiver.ask(a_line_question())
        receiver.refute(1, "", ((("reading", 1),),), ONE)
        receiver.pin(), receiver.raise_floor(1), receiver.unpin(1)
        self.assertEqual(receiver.verdicts(1), [("", LINE, "out")])

    def test_equal_only_to_itself(self):
        receiver = Receiver(STILL)
        self.assertTrue(receiver == receiver)
        self.assertFalse(receiver == Receiver(STILL))
        self.assertTrue(receiver != Receiver(STILL))


class Model:
    """A receiver that judges everything from the beginning, and keeps all cells, also those that are cut."""

    def __init__(self, setting):
        self.setting, self.there, self.questions, self.writes, self.asked = setting, {}, {}, 0, 0

    def readings(self):
        return sorted(self.there.items(), key=lambda pair: pair[0])

    def room(self, there):
        return len(there) <= 1000 and len({reading.source for reading in there.values()}) <= 32

    def write(self, there):
        self.there = there
        self.writes += 1
        fallen = [(number, self.turn(question)) for number, question in sorted(self.questions.items())]
        return Write(self.writes, [pair for pair in fallen if pair[1]])

    def put(self, reading):
        there = {**self.there, self.writes + 1: reading}
        return self.write(there) if self.room(there) else None

    def correct(self, number, reading):
        there = {**self.there, number: reading}
        return self.write(there) if number in self.there and self.room(there) else None

    def withdraw(self, number):
        there = {n: reading for n, reading in self.there.items() if n != number}
        return self.write(there) if number in self.there else None

    def ask(self, question):
        self.asked += 1
        self.questions[self.asked] = {"question": question, "known": [], "cells": {"": ("open",)}}
        return self.asked

    def turn(self, standing):
        question = standing["question"]
        for at in range(len(standing["known"])):
            if judge_known(self.setting, question, self.readings(), standing["known"][:at + 1]) is None:
                standing["known"][at] = Known(question.moment, (question.root,), KEEP)
        fell = [address for address in standing["cells"] if not self.stands(standing, address)]
        for address in fell:
            standing["cells"][address] = ("open",)
        return sorted(fell)

    def stands(self, standing, address):
        state, question = standing["cells"][address], standing["question"]
        box = cell_at(question.root, address)
        if state[0] == "out":
            paper = Paper(tuple(standing["known"]), state[1], state[2])
            return judge_paper(self.setting, question, self.readings(), paper, box)
        return state[0] != "in" or judge_witness(self.setting, question, self.readings(), state[1], box)

    def learn(self, number, thing):
        known = self.questions[number]["known"]
        right = judge_known(self.setting, self.questions[number]["question"], self.readings(), known + [thing])
        if len(known) >= 128 or right is None:
            return None
        known.append(thing)
        return len(known) - 1

    def settle(self, cells, address, state):
        for length in range(len(address)):
            if cells[address[:length]][0] != "cut":
                cells[address[:length]] = ("cut",)
                cells[address[:length] + "0"] = cells[address[:length] + "1"] = ("open",)
        for other in [other for other in cells if other.startswith(address)]:
            del cells[other]
        cells[address] = state

    def refute(self, number, address, trees, steps):
        standing = self.questions[number]
        cells, question = standing["cells"], standing["question"]
        box = cell_at(question.root, address)
        above = [cells[address[:k]][0] for k in range(len(address)) if address[:k] in cells]
        if box is None or "out" in above or "in" in above or cells.get(address, ("",))[0] == "out":
            return False
        paper = Paper(tuple(standing["known"]), trees, steps)
        if not judge_paper(self.setting, question, self.readings(), paper, box):
            return False
        self.settle(cells, address, ("out", trees, steps))
        return True

    def reach(self, number, address, witness):
        standing = self.questions[number]
        cells, question = standing["cells"], standing["question"]
        box = cell_at(question.root, address)
        above = [cells[address[:k]][0] for k in range(len(address)) if address[:k] in cells]
        if box is None or "out" in above or "in" in above or cells.get(address, ("open",))[0] != "open":
            return False
        if not is_small(box, question.share):
            return False
        if not judge_witness(self.setting, question, self.readings(), witness, box):
            return False
        self.settle(cells, address, ("in", witness))
        return True

    def verdicts(self, number):
        standing = self.questions[number]
        return [(address, cell_at(standing["question"].root, address), state[0])
                for address, state in sorted(standing["cells"].items(), key=lambda pair: pair[0]) if state[0] != "cut"]


class WholeRuns(unittest.TestCase):
    """Receivers of worlds with liars: after each call they are as the model, and as the points promise."""

    def begin(self, seed):
        self.chance = dice(seed)
        setting = a_setting(2 if seed % 4 else 3, speed=self.chance.choice((0, 1, 5)),
                            drift=self.chance.randint(0, 1), per=1)
        self.world = a_world(self.chance, setting, 9)
        self.liars = some_liars(self.chance, 2)
        self.receiver, self.model = Receiver(setting), Model(setting)
        self.here, self.waiting = {}, []

    def both(self, name, *arguments):
        told = getattr(self.receiver, name)(*arguments)
        due = getattr(self.model, name)(*arguments)
        self.assertEqual(told, due, name)
        kind = name if not isinstance(told, Write) else "fallen" if told.fallen else "write"
        accepted = told is not None and told is not False
        self.counts[kind, accepted] = self.counts.get((kind, accepted), 0) + 1
        return told

    def a_reading(self):
        return a_true_reading(self.chance, self.world, self.liars)

    def ask(self):
        moment = self.chance.randrange(9)
        place, offset = self.world[moment]
        root = tuple((n - self.chance.randint(0, 20), n + self.chance.randint(0, 20)) for n in place)
        root += ((offset - self.chance.randint(0, 3), offset + self.chance.randint(0, 3)),)
        liars = self.chance.randint(len(self.liars), 2)
        number = self.both("ask", a_question(moment, root, liars=liars, share=self.chance.randint(3, 9), earliest=0,
                                             latest=self.chance.randint(5, 9)))
        self.here[number] = place + (offset,)

    def look(self):
        """Searches, and makes offers of what was found, of which some are made later."""
        number = self.chance.choice(self.receiver.questions)
        question = self.receiver.question(number)
        moments = tuple(sorted(self.chance.sample(range(0, question.latest + 1), 2)))
        plan = Plan(moments, grain=self.chance.randint(4, 9), most=self.chance.randint(1, 6),
                    without=((), tuple(self.chance.sample(SOURCES, 1))))
        found = search(self.receiver.setting, question, self.receiver.there(), plan, self.chance.choice((5, 30, 80)))
        check_found(self, self.receiver.setting, question, self.receiver.there(), found, self.here[number],
                    chance=self.chance)
        # What is known here has other places there.
        by = len(self.receiver.known(number))
        offers = [("learn", number, Known(thing.moment, thing.cover, moved(thing.tree, by))) for thing in found.known]
        for told in self.chance.sample(found.told, min(len(found.told), 9)):
            if told.verdict == "out":
                trees = tuple(moved(tree, by) for tree in told.trees)
                offers.append(("refute", number, told.cell, trees, told.steps))
            elif told.verdict == "in":
                offers.append(("reach", number, told.cell, told.witness))
        self.waiting += offers if self.chance.random() < 0.7 else self.chance.sample(offers, len(offers) // 2)

    def offer(self):
        """Offers what was found first; sometimes for another cell, or changed."""
        name, number, *arguments = self.waiting.pop(0)
        if number not in self.receiver.questions:
            return
        if name != "learn" and self.chance.random() < 0.2:
            address = arguments[0]
            arguments[0] = self.chance.choice((address[:-1], address + "0", address[1:], address[:-2] + "1"))
        if name == "refute" and self.chance.random() < 0.1:
            arguments[2] = arguments[2][:-1]
        self.both(name, number, *arguments)

    def write(self):
        numbers = [number for number, _ in self.receiver.there()]
        what = self.chance.random()
        if what < 0.4 or len(numbers) < 3:
            before = self.outs()
            self.both("put", self.a_reading())
            self.assertLessEqual(before, self.outs())
        elif what < 0.6:
            self.say_more(self.chance.choice(numbers))
        elif what < 0.8:
            self.both("correct", self.chance.choice(numbers + [0]), self.a_reading())
        else:
            self.both("withdraw", self.chance.choice(numbers + [0]))

    def say_more(self, number):
        """A correction that says as much, by a reading that a world can keep: the liars' ones, or the same again."""
        old = dict(self.receiver.there())[number]
        new = old
        if old.source in self.liars:
            low = self.chance.randint(old.low, old.high)
            new = a_reading(old.source, old.moment, old.kind, low=low, high=self.chance.randint(low, old.high),
                            late=self.chance.randint(0, old.late), near=self.chance.randint(0, old.near))
        self.assertTrue(says_as_much(new, old))
        before = self.outs()
        self.both("correct", number, new)
        self.assertLessEqual(before, self.outs())

    def outs(self):
        """What is out, and what is known."""
        cells = {(number, address) for number in self.receiver.questions
                 for address, _, verdict in self.receiver.verdicts(number) if verdict == "out"}
        known = {(number, at, thing.moment, thing.cover, thing.tree) for number in self.receiver.questions
                 for at, thing in enumerate(self.receiver.known(number))}
        return cells | known

    def check(self):
        receiver, model = self.receiver, self.model
        readings = receiver.there()
        self.assertEqual(readings, model.readings())
        self.assertEqual(receiver.questions, sorted(model.questions))
        for number in receiver.questions:
            question, known = receiver.question(number), receiver.known(number)
            self.assertEqual(known, model.questions[number]["known"])
            self.assertIsNotNone(judge_known(receiver.setting, question, readings, known))
            verdicts = receiver.verdicts(number)
            self.assertEqual(verdicts, model.verdicts(number))
            self.assertTrue(make_up([address for address, _, _ in verdicts]))
            self.assertTrue(any(holds(box, self.here[number]) for _, box, verdict in verdicts if verdict != "out"))
            for address, box, verdict in verdicts:
                self.assertFalse(verdict == "out" and holds(box, self.here[number]))
                self.check_cell(readings, number, address, box, verdict)

    def check_cell(self, readings, number, address, box, verdict):
        receiver, question = self.receiver, self.receiver.question(number)
        paper, witness = receiver.paper(number, address), receiver.witness(number, address)
        self.assertEqual((paper is not None, witness is not None), (verdict == "out", verdict == "in"))
        state = self.model.questions[number]["cells"][address]
        if verdict == "out":
            self.assertEqual(paper, Paper(tuple(receiver.known(number)), state[1], state[2]))
            self.assertTrue(judge_paper(receiver.setting, question, readings, paper, box))
        if verdict == "in":
            self.assertEqual(witness, state[1])
            self.assertTrue(judge_witness(receiver.setting, question, readings, witness, box))
            self.assertTrue(is_small(box, question.share) or halves(box) is None)

    def test_runs(self):
        self.counts = {}
        for seed in range(40):
            self.begin(seed)
            for _ in range(6):
                self.both("put", self.a_reading())
            self.ask()
            for _ in range(50):
                what = self.chance.random()
                if what < 0.08:
                    self.ask() if len(self.receiver.questions) < 3 else self.look()
                elif what < 0.2 or not self.waiting:
                    self.look()
                elif what < 0.8:
                    self.offer()
                else:
                    self.write()
                self.check()
        for what in (("learn", True), ("refute", True), ("refute", False), ("reach", True), ("reach", False),
                     ("fallen", True), ("write", True)):
            self.assertGreater(self.counts.get(what, 0), 15, self.counts)


if __name__ == "__main__":
    unittest.main()
