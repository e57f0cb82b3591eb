"""Receivers as texts (points [91] to [97])."""

import copy
import unittest

from sureplace.errors import InvalidText
from sureplace.judge.papers import Known, Paper, judge_known, judge_paper
from sureplace.numbers.boxes import cell_at
from sureplace.standing.receiver import Receiver
from sureplace.texts.saved import load, save
from sureplace.witness.judging import judge_witness
from sureplace.witness.ways import Witness
from tests.busy import Busy, state_of
from tests.helpers import a_question, a_reading, a_setting, dice, raised

HEAD = "sureplace 1 2 3 0 1"
R = "a 0 side 1 0 0 9 0 0"
# A question with one liar about a line from 0 to 8; cells with a share of 2 are small.
Q = "0 0 8 0 0 0 0 1 2 -9 9"
FAR = 10 ** 18


def listed(members):
    return " ".join([str(len(members))] + list(members))


def text_of_box(box):
    return " ".join(f"{low} {high}" for low, high in box)


def text_of_kind(kind):
    if kind[0] == "boxes":
        return "boxes " + listed([text_of_box(box) for box in kind[1]])
    return " ".join([kind[0]] + [str(number) for point in kind[1:] for number in point])


def text_of_reading(reading):
    return (f"{reading.source} {reading.moment} {text_of_kind(reading.kind)} {reading.low} {reading.high}"
            f" {reading.late} {reading.near}")


def text_of_tree(tree):
    return listed([" ".join(str(part) for part in step) for step in tree])


def text_of_thing(thing):
    return f"{thing.moment} {listed([text_of_box(box) for box in thing.cover])} {text_of_tree(thing.tree)}"


def text_of_witness(witness):
    return f"{listed(witness.liars)} {listed([' '.join(str(n) for n in point) for point in witness.points])}"


def text_of_cells(receiver, number, address):
    verdicts = {address: verdict for address, _, verdict in receiver.verdicts(number)}
    if address not in verdicts:
        first, second = [text_of_cells(receiver, number, address + sign) for sign in "01"]
        return f"cut {first} {second}"
    if verdicts[address] == "out":
        paper = receiver.paper(number, address)
        steps = [f"{tree} {listed([str(step) for step in following])}" for tree, following in paper.steps]
        return f"out {listed([text_of_tree(tree) for tree in paper.trees])} {listed(steps)}"
    if verdicts[address] == "in":
        return f"in {text_of_witness(receiver.witness(number, address))}"
    return "open"


def text_of_standing(receiver, number):
    question = receiver.question(number)
    return (f"{number} {question.moment} {text_of_box(question.root)} {question.liars} {question.share}"
            f" {question.earliest} {question.latest} {listed([text_of_thing(x) for x in receiver.known(number)])}"
            f" {text_of_cells(receiver, number, '')}")


def text_of(receiver):
    """The text of a receiver as the table of point [93] tells."""
    setting, ledger = receiver.setting, receiver.ledger
    entries = [f"{number} " + listed([f"{born} {'-' if died is None else died} {text_of_reading(reading)}"
                                      for born, died, reading in versions])
               for number, versions in ledger.entries()]
    return (f"sureplace 1 {setting.dims} {setting.speed} {setting.drift} {setting.per}"
            f" {ledger.now} {ledger.floor} {listed([str(pin) for pin in ledger.pins])} {listed(entries)}"
            f" {receiver.next_number} {listed([text_of_standing(receiver, k) for k in receiver.questions])}")


def place_of(text):
    """The place at which the text goes wrong; None if it can be loaded."""
    try:
        load(text)
    except InvalidText as error:
        return error.place
    return None


def asking(cells="open", *, question=Q, known="0", ledger="0 0 0 0"):
    """The text of a receiver with one question."""
    return f"{HEAD} {ledger} 2 1 1 {question} {known} {cells}"


class Case(unittest.TestCase):
    def right(self, text):
        """The text can be loaded, and is the text of what was loaded."""
        self.assertEqual(place_of(text), None, text)
        self.assertEqual(save(load(text)), text)

    def wrong(self, marked):
        """The text goes wrong at the word behind the mark; a mark alone at the end stands for a missing word."""
        words = marked.split(" ")
        place = [word[:1] for word in words].index("!")
        words[place] = words[place][1:]
        if place == len(words) - 1 and words[place] == "":
            words.pop()
        self.assertEqual(place_of(" ".join(words)), place, marked)


class Example(Case):
    def test_a_new_receiver(self):
        text = "sureplace 1 2 3 0 1 0 0 0 0 1 0"
        self.assertEqual(save(Receiver(a_setting(2, speed=3, drift=0, per=1))), text)
        receiver = load(text)
        self.assertIsInstance(receiver, Receiver)
        self.assertEqual(state_of(receiver), state_of(Receiver(a_setting(2, speed=3, drift=0, per=1))))
        self.assertEqual(load(text).setting, a_setting(2, speed=3, drift=0, per=1))


class AsTheTable(Case):
    def receiver(self, dims=2):
        receiver = Receiver(a_setting(dims, speed=10 ** 12, drift=0, per=7))
        point, other = (1,) + (-2,) * (dims - 1), (0,) * dims
        for kind in (("range", point), ("clocked", point), ("differ", point, other), ("side", point),
                     ("piece", other, point), ("boxes", (((0, 1),) * dims, ((-3, 3),) * dims))):
            receiver.put(a_reading("n-_9", -5, kind, low=-4, high=10 ** 15, late=6, near=7))
        return receiver

    def test_readings_of_all_kinds(self):
        for dims in (2, 3):
            receiver = self.receiver(dims)
            text = save(receiver)
            self.assertEqual(text, text_of(receiver))
            self.right(text)
            self.assertEqual(load(text).there(), receiver.there())
        self.assertIn(" 6 1 6 - n-_9 -5 boxes 2 0 1 0 1 -3 3 -3 3 -4 1000000000000000 6 7 1 0", save(self.receiver()))
        self.assertIn(" 1 1 1 - n-_9 -5 range 1 -2 -2 -4 ", save(self.receiver(3)))

    def test_the_ledger(self):
        receiver = Receiver(a_setting(2, speed=3, drift=0, per=1))
        reading = a_reading("a", 0, ("side", (1, 0)), low=0, high=9)
        receiver.put(reading), receiver.put(reading), receiver.pin(), receiver.correct(1, reading)
        receiver.withdraw(2), receiver.pin(), receiver.pin(), receiver.raise_floor(3), receiver.put(reading)
        receiver.withdraw(5), receiver.raise_floor(6)
        text = f"{HEAD} 6 6 3 2 4 4 2 1 2 1 3 {R} 3 - {R} 2 1 2 4 {R} 1 0"
        self.assertEqual(save(receiver), text)
        self.right(text)
        self.assertEqual(state_of(load(text)), state_of(receiver))
        loaded = load(text)
        loaded.unpin(2)
        self.assertEqual(save(loaded), f"{HEAD} 6 6 2 4 4 1 1 1 3 - {R} 1 0")

    def test_questions(self):
        receiver = Receiver(a_setting(2, speed=0, drift=0, per=1))
        receiver.put(a_reading("a", 0, ("side", (1, 0)), low=3, high=9))
        receiver.put(a_reading("b", 0, ("side", (1, 0)), low=-9, high=4))
        question = a_question(0, ((0, 8), (0, 0), (0, 0)), liars=0, share=2, earliest=-1, latest=9)
        for _ in range(4):
            receiver.ask(question)
        receiver.end(1), receiver.end(4)
        thing = Known(0, (((2, 8), (0, 0), (0, 0)),), (("cut", 0, 2), ("reading", 1), ("kept", 0)))
        receiver.learn(2, thing), receiver.learn(2, Known(9, (), (("known", 0),)))
        receiver.refute(2, "11", ((("known", 5),), (("reading", 2),), ()), ((1, ()), (0, (3, 3))))
        receiver.reach(2, "01", Witness((), ((0, 3, 0, 0), (5, 3, -2, 0))))
        readings = "2 1 1 1 - a 0 side 1 0 3 9 0 0 2 1 2 - b 0 side 1 0 -9 4 0 0"
        asks = "0 0 8 0 0 0 0 0 2 -1 9"
        things = "1 0 1 2 8 0 0 0 0 3 cut 0 2 reading 1 kept 0"
        cells = ("cut cut open in 0 2 0 3 0 0 5 3 -2 0"
                 " cut open out 3 1 known 5 1 reading 2 0 2 1 0 0 2 3 3")
        text = f"sureplace 1 2 0 0 1 2 0 0 {readings} 5 2 2 {asks} {things} {cells} 3 {asks} 0 open"
        self.assertEqual(save(receiver), text)
        self.right(text)
        self.assertEqual(state_of(load(text)), state_of(receiver))


class Words(Case):
    def test_the_words_of_a_new_receiver(self):
        text = "sureplace 1 2 3 0 1 0 0 0 0 1 0"
        words = text.split(" ")
        for place in range(len(words)):
            for wrong in ("", "x", "A", "-0", "01", "1.5", "~", "SURE", str(FAR + 1), str(-FAR - 1), "9" * 21):
                self.wrong(" ".join(words[:place] + ["!" + wrong] + words[place + 1:] + ["0"]))
            if place:
                self.wrong(" ".join(words[:place] + ["!"]))
        self.assertEqual((place_of(""), place_of(" "), place_of(" " + text)), (0, 0, 0))
        self.wrong(f"{text} !0"), self.wrong(f"{text} !x 5")
        self.assertEqual(place_of(text + " "), len(words))
        self.wrong("!Sureplace" + text[9:]), self.wrong("sureplace !2" + text[11:])

    def test_a_text_that_is_cut_at_each_word(self):
        for seed in range(4):
            words = save(Busy(seed).go_on(60).receiver).split(" ")
            for many in range(1, len(words), 1 + len(words) // 400):
                self.assertEqual(place_of(" ".join(words[:many])), many)
            self.assertEqual(place_of(" ".join(words + ["0"])), len(words))

    def test_a_word_that_fits_nowhere(self):
        for seed in range(4):
            words = save(Busy(seed + 50).go_on(60).receiver).split(" ")
            for place in range(0, len(words), 1 + len(words) // 400):
                for wrong in ("", "No", "-"):
                    changed = words[:place] + [wrong] + words[place + 1:]
                    told = place_of(" ".join(changed))
                    # A name can be a hyphen, and a version need not have died.
                    self.assertTrue(told == place or (wrong == "-" and (told is None or told > place)), (wrong, place))

    def test_another_number(self):
        """What stands before a word is not blamed for it, and what can be loaded is saved as what it became."""
        loaded = 0
        for seed in range(6):
            chance = dice(seed)
            words = save(Busy(seed + 80).go_on(40).receiver).split(" ")
            for _ in range(150):
                place = chance.randrange(len(words))
                wrong = chance.choice(("0", "1", "2", "5", "-1", "300", str(10 ** 13), str(FAR), "open", "cut"))
                text = " ".join(words[:place] + [wrong] + words[place + 1:])
                told = place_of(text)
                self.assertTrue(told is None or place <= told <= len(words))
                if told is None:
                    self.right(save(load(text)))
                    loaded += 1
        self.assertGreater(loaded, 200)


class Given(Case):
    """Settings, readings and questions: the place is that of the word after them."""

    def test_settings(self):
        for numbers, told in (("2 0 0 1", True), ("3 0 0 1", True), ("1 0 0 1", False), ("4 0 0 1", False),
                              ("2 -1 0 1", False), ("2 0 -1 1", False), ("2 0 0 0", False),
                              (f"2 {10 ** 12} {10 ** 12} {10 ** 12}", True), (f"2 {10 ** 12 + 1} 0 1", False),
                              (f"2 0 {10 ** 12 + 1} 1", False), (f"2 0 0 {10 ** 12 + 1}", False), ("-5 0 0 1", False)):
            if told:
                self.right(f"sureplace 1 {numbers} 0 0 0 0 1 0")
            else:
                self.wrong(f"sureplace 1 {numbers} !0 0 0 0 1 0")
                self.wrong(f"sureplace 1 {numbers} !x")
                self.wrong(f"sureplace 1 {numbers} !")
        self.wrong(f"sureplace 1 1 !{FAR + 1} 0 1 0 0 0 0 1 0")

    def test_readings(self):
        for reading, told in (
                (R, True), ("a 1000000000000 range -1000000000000 0 -1000000000000000 1000000000000000 0 0", True),
                ("a 1000000000001 range 0 0 0 0 0 0", False), ("a 0 range 1000000000001 0 0 0 0 0", False),
                ("a 0 clocked 0 0 2 1 0 0", False), ("a 0 side 0 0 0 0 0 0", False), ("a 0 side 1001 0 0 0 0 0", False),
                ("a 0 side -1000 1000 0 0 0 0", True), ("a 0 range 0 0 0 1000000000000001 0 0", False),
                ("a 0 range 0 0 0 0 -1 0", False), ("a 0 range 0 0 0 0 0 1000000000001", False),
                ("a 0 differ 0 0 1 1 0 0 0 0", True), ("a 0 piece 0 0 1 1000000000001 0 0 0 0", False),
                ("a 0 boxes 0 0 0 0 0", False), ("a 0 boxes 1 0 1 0 1 0 0 0 0", True),
                ("a 0 boxes 1 1 0 0 1 0 0 0 0", False), ("a 0 boxes 16" + " 0 1 0 1" * 16 + " 0 0 0 0", True),
                ("a 0 boxes 17" + " 0 1 0 1" * 17 + " 0 0 0 0", False)):
            if told:
                self.right(f"{HEAD} 1 0 0 1 1 1 1 - {reading} 1 0")
            else:
                self.wrong(f"{HEAD} 1 0 0 1 1 1 1 - {reading} !1 0")
                self.wrong(f"{HEAD} 1 0 0 1 1 1 1 - {reading} !")

    def test_words_of_readings(self):
        begin = f"{HEAD} 1 0 0 1 1 1 1 -"
        for reading in ("!A 0 side 1 0 0 9 0 0", f"!{'a' * 65} 0 side 1 0 0 9 0 0", "a !x side 1 0 0 9 0 0",
                        f"a !{FAR + 1} side 1 0 0 9 0 0", "a 0 !sides 1 0 0 9 0 0", "a 0 side 1 !y 0 9 0 0",
                        "a 0 side 1 0 0 9 0 !", "a 0 side 1 0 0 9 0 !-", "a 0 boxes !-1 0 1 0 1 0 0 0 0",
                        "a 0 boxes !1000001 0 1 0 1 0 0 0 0", "a 0 boxes 1000000 0 1 0 1 0 0 !",
                        f"a 0 side 1 0 0 !{-FAR - 1} 0 0"):
            self.wrong(f"{begin} {reading}")
        # Points have as many numbers as the setting has directions.
        self.right("sureplace 1 3 3 0 1 1 0 0 1 1 1 1 - a 0 side 1 0 0 0 9 0 0 1 0")
        self.wrong(f"sureplace 1 3 3 0 1 1 0 0 1 1 1 1 - {R} 1 !0")

    def test_questions(self):
        for question, told in (
                (Q, True), ("0 0 8 0 0 0 0 3 1000000000000 9 9", True), ("0 0 8 0 0 0 0 4 2 -9 9", False),
                ("0 0 8 0 0 0 0 -1 2 -9 9", False), ("0 0 8 0 0 0 0 1 0 -9 9", False),
                ("0 0 8 0 0 0 0 1 1000000000001 -9 9", False), ("0 0 8 0 0 0 0 1 2 9 8", False),
                ("0 8 0 0 0 0 0 1 2 -9 9", False), ("0 0 8 0 0 1 0 1 2 -9 9", False),
                ("0 0 1000000000001 0 0 0 0 1 2 -9 9", False), ("1000000000001 0 8 0 0 0 0 1 2 -9 9", False)):
            if told:
                self.right(asking(question=question))
            else:
                self.wrong(asking(question=question, known="!0"))
                self.wrong(f"{HEAD} 0 0 0 0 2 1 1 {question} !")
        self.wrong(asking(question=f"0 0 8 0 0 0 0 1 2 -9 !{FAR + 1}"))


class Ledgers(Case):
    def test_numbers(self):
        for ledger in ("!-1 0 0 0", f"!{FAR + 1} 0 0 0", "0 !1 0 0", "3 !4 0 0", "3 !-1 0 0", "3 0 !1000001 0",
                       "3 0 !-1 0", "3 0 1 !4 0", "3 0 2 3 !-1 0", "3 0 1 3 !1000001", "3 0 3 1 2 !4 0", "3 0 0 !-1"):
            self.wrong(f"{HEAD} {ledger} 1 0")
        for ledger in ("3 0 0 0", "3 3 0 0", f"{FAR} {FAR} 1 {FAR} 0", "3 1 4 3 0 0 2 0"):
            self.right(f"{HEAD} {ledger} 1 0")

    def test_entries(self):
        for entries in (f"1 !0 1 1 - {R}", f"1 !4 1 1 - {R}", f"2 2 1 2 - {R} !2 1 2 - {R}",
                        f"2 2 1 2 - {R} !1 1 2 - {R}", f"2 2 1 2 - {R} !4 1 2 - {R}", f"1 1 !0 1 - {R}",
                        f"1 1 !1000001 1 - {R}", f"2 1 1 1 - {R} !"):
            self.wrong(f"{HEAD} 3 0 0 {entries}{'' if entries.endswith('!') else ' 1 0'}")
        self.right(f"{HEAD} 3 0 0 3 1 1 1 - {R} 2 1 2 - {R} 3 1 3 - {R} 1 0")
        self.right(f"{HEAD} 3 0 0 2 1 1 2 - {R} 3 1 3 - {R} 1 0")
        # Nothing is looked at ahead: the third number is the first one that is out of bounds.
        self.wrong(f"{HEAD} 3 0 0 3 1 1 1 - {R} 3 1 3 - {R} !4 1 4 - {R} 1 0")

    def test_versions(self):
        for versions in (f"1 !1 - {R}", f"1 !6 - {R}", f"1 2 !2 {R}", f"1 2 !1 {R}", f"1 2 !6 {R}", f"1 2 !x {R}",
                         f"2 2 !- {R} 3 - {R}", f"2 2 4 {R} !3 - {R}", f"2 2 4 {R} !6 - {R}", f"2 2 4 {R} 4 !4 {R}",
                         f"3 2 3 {R} 3 4 {R} !3 - {R}", f"2 2 3 {R} 3 !"):
            self.wrong(f"{HEAD} 5 0 0 1 2 {versions}{'' if versions.endswith('!') else ' 1 0'}")
        for versions in (f"1 2 - {R}", f"1 5 - {R}", f"1 2 3 {R}", f"1 2 5 {R}", f"2 2 4 {R} 4 - {R}",
                         f"2 2 3 {R} 5 - {R}", f"3 2 3 {R} 3 4 {R} 4 5 {R}"):
            self.right(f"{HEAD} 5 0 0 1 2 {versions} 1 0")

    def test_versions_that_were_there_at_no_kept_moment(self):
        for floor, pins, versions, told in (
                (3, "0", f"1 1 3 {R}", False), (3, "0", f"1 1 4 {R}", True), (3, "0", f"1 1 - {R}", True),
                (3, "1 2", f"1 1 3 {R}", True), (3, "1 0", f"1 1 3 {R}", False), (3, "1 3", f"1 1 3 {R}", False),
                (3, "1 1", f"1 1 3 {R}", True), (5, "0", f"2 1 3 {R} 3 - {R}", False),
                (5, "1 1", f"2 1 3 {R} 3 - {R}", True), (5, "1 2", f"3 1 2 {R} 2 3 {R} 3 - {R}", False),
                (5, "2 0 1", f"1 1 5 {R}", True), (5, "0", f"1 1 5 {R}", False)):
            if told:
                self.right(f"{HEAD} 5 {floor} {pins} 1 1 {versions} 1 0")
            else:
                self.wrong(f"{HEAD} 5 {floor} {pins} 1 1 {versions} !1 0")
                self.wrong(f"{HEAD} 5 {floor} {pins} 1 1 {versions} !")

    def test_room(self):
        def ledger(many, sources, died="-"):
            entries = [f"{k} 1 {k} {died} n{k % sources} 0 side 1 0 0 9 0 0" for k in range(1, many + 1)]
            return f"{many + 1} 0 0 {many} {' '.join(entries)}"

        self.right(f"{HEAD} {ledger(1000, 1)} 1 0")
        self.wrong(f"{HEAD} {ledger(1001, 1)} !1 0")
        self.right(f"{HEAD} {ledger(1001, 1, died='1002')} 1 0")
        self.right(f"{HEAD} {ledger(32, 32)} 1 0")
        self.wrong(f"{HEAD} {ledger(33, 33)} !1 0")
        self.wrong(f"{HEAD} {ledger(33, 33)} !")
        self.right(f"{HEAD} {ledger(33, 33, died='34')} 1 0")


class Questions(Case):
    def test_numbers(self):
        one = f"{Q} 0 open"
        for rest in ("!0 0", "!-1 0", f"!{FAR + 1} 0", "1 !1000001", f"1 1 !1 {one}", f"3 1 !0 {one}", f"3 1 !3 {one}",
                     f"3 2 2 {one} !2 {one}", f"3 2 2 {one} !1 {one}", f"3 2 1 {one} !3 {one}", f"3 2 1 {one} !",
                     f"3 1 1 {one} !0", "3 !-1"):
            self.wrong(f"{HEAD} 0 0 0 0 {rest}")
        for rest in ("1 0", f"{FAR} 0", f"3 1 1 {one}", f"3 1 2 {one}", f"3 2 1 {one} 2 {one}",
                     f"{FAR} 2 7 {one} {FAR - 1} {one}"):
            self.right(f"{HEAD} 0 0 0 0 {rest}")

    def test_known_things(self):
        plain = "0 1 0 8 0 0 0 0 1 kept 0"
        self.right(asking(known=f"128 {' '.join([plain] * 128)}"))
        self.wrong(asking(known=f"!129 {' '.join([plain] * 129)}"))
        for thing in ("!x 0 0", f"!{FAR + 1} 0 0", "0 !-1 0", "0 !100001 0", "0 1 0 8 0 0 0 x".replace("x", "!x"),
                      f"0 1 0 8 0 0 0 !{FAR + 1} 0", "0 1 0 8 1 0 0 0 !0", "0 1 8 0 0 0 0 0 !0", "0 1 0 8 0 0 0 -1 !x",
                      "0 2 0 8 0 0 1 0 !0 8 0 0 0 0 0", "0 0 !100001", "0 0 !-1", "0 0 1 !other 0", "0 0 1 reading !-1",
                      "0 0 1 known !-1", "0 0 1 kept !-1", f"0 0 1 kept !{FAR + 1}", "0 0 1 cut !-1 0",
                      f"0 0 1 cut {FAR} !{FAR + 1}", f"0 0 1 cut !{FAR + 1} 0", f"0 0 1 cut 0 !{-FAR - 1}"):
            self.wrong(asking(known=f"1 {thing}"))
        self.wrong(f"{HEAD} 0 0 0 0 2 1 1 {Q} 1 0 1 0 8 0 0 1 0 !")

    def test_cells(self):
        for cells in ("!Open", "!", "cut open !", "cut open open !open", "!stuck", "out !-1 0", "out !100001",
                      "out 0 !100001", "out 1 !100001", "out 1 1 !in 0", "out 0 1 !-1 0", f"out 0 1 !{FAR + 1} 0",
                      "out 0 1 0 !100001", "out 0 1 0 1 !-1", f"out 0 1 0 1 !{FAR + 1}", "out 0 1 0 !-1"):
            self.wrong(asking(cells))

    def test_witnesses(self):
        for witness in ("!-1 0", "!100001 0", "1 !A 0", "1 a !100001", "1 a !-1", "0 1 0 0 0 !x", "0 1 0 0 0 !",
                        f"0 1 !{FAR + 1} 0 0 0", f"0 1 0 0 0 !{-FAR - 1}"):
            self.wrong(asking(f"cut cut in {witness}"))

    def test_a_cell_that_is_cut_has_halves(self):
        self.right(asking("cut cut cut open open open open"))
        self.wrong(asking("cut cut cut cut !open open open open open"))
        self.wrong(asking("cut cut cut cut !"))
        self.wrong(asking("cut open cut open cut open cut !x"))

    def test_a_cell_that_is_in_is_small(self):
        # The sides are 8, 4 and 2 long.
        for cells in ("in 0 1 0 3 0 0 !", "cut in 0 1 0 3 0 0 !open", "cut open in 0 0 !"):
            self.wrong(asking(cells))
        self.assertIsNone(place_of(asking("cut cut open in 0 1 0 3 0 0 open")))
        # What a text claims is judged only when all of it can be read.
        self.wrong(asking("cut cut open in 2 a a 0 !cat"))

    def test_long_lists(self):
        many = 100000
        steps = " ".join(["0 0"] * many)
        self.assertIsNone(place_of(asking(f"out 0 {many} {steps}")))
        self.wrong(asking(f"out 0 !{many + 1} {steps} 0 0"))
        self.assertIsNone(place_of(asking(f"out 0 1 0 {many} {'7 ' * many}".strip())))
        self.wrong(asking(f"out 0 1 0 !{many + 1} {'7 ' * (many + 1)}".strip()))


class Judged(Case):
    """Point [95]: what a text claims about cells and known things is not trusted."""

    # The place is from 3 to 9; by reading 2 it is from 20 to 30.
    LEDGER = "2 0 0 2 1 1 1 - a 0 side 1 0 3 9 0 0 2 1 2 - b 0 side 1 0 20 30 0 0"

    def text(self, cells, known="0"):
        text = asking(cells, question="0 0 8 0 0 0 0 0 2 -9 9", known=known, ledger=self.LEDGER)
        # Nothing moves.
        return text.replace(HEAD, "sureplace 1 2 0 0 1")

    def test_papers(self):
        right = "out 1 1 reading 1 1 0 0"
        for claimed, told in ((right, right), ("out 1 1 reading 2 1 0 0", "out 1 1 reading 2 1 0 0"),
                              ("out 1 1 reading 3 1 0 0", "open"), ("out 0 0", "open"),
                              ("out 1 1 reading 1 1 1 0", "open"), ("out 1 1 known 0 1 0 0", "open")):
            self.assertEqual(save(load(self.text(f"cut cut {claimed} open open"))), self.text(f"cut cut {told} open open"))

    def test_witnesses(self):
        ledger = "1 0 0 1 1 1 1 - a 0 side 1 0 3 9 0 0"
        for claimed, told in (("in 0 1 0 1 0 0", True), ("in 0 0", False), ("in 1 a 1 0 1 0 0", False),
                              ("in 0 2 0 1 0 0 0 1 0 0", False), ("in 0 1 0 4 0 0", False)):
            text = asking(f"cut cut {claimed} open open", question="0 0 8 0 0 0 0 0 2 -9 9", ledger=ledger)
            due = text if told else text.replace(claimed, "open")
            self.assertEqual(save(load(text)), due)

    def test_known_things(self):
        right = "0 1 3 8 0 0 0 0 3 cut 0 2 reading 1 kept 0"
        plain = "0 1 0 8 0 0 0 0 1 kept 0"
        wrong = "5 0 1 reading 1"
        self.assertEqual(save(load(self.text("open", f"2 {wrong} {plain}"))), self.text("open", f"2 {plain} {plain}"))
        known = right.replace("3 8", "2 8", 1)
        text = self.text("cut cut out 1 1 known 1 1 0 0 open open", f"3 {wrong} {known} {right}")
        due = self.text("cut cut open open open", f"3 {plain} {known} {plain}")
        self.assertEqual(save(load(text)), due)

    def test_numbers_that_are_nothing_here(self):
        """What is bounded can be read, whatever it says."""
        claimed = f"out 1 2 cut {FAR} {-FAR} kept {FAR} 1 {FAR} 2 {FAR} 0"
        self.assertEqual(save(load(self.text(claimed))), self.text("open"))

    def test_after_loading_everything_is_right(self):
        for seed in range(12):
            receiver = Busy(seed + 200).go_on(60).receiver
            words = save(receiver).split(" ")
            chance = dice(seed)
            for _ in range(25):
                # A word is changed, so that what is claimed may not be right.
                place = chance.randrange(len(words))
                changed = words[:place] + [chance.choice(("0", "1", "2", "3", "-1", "7"))] + words[place + 1:]
                if place_of(" ".join(changed)) is None:
                    self.check(load(" ".join(changed)))

    def check(self, receiver):
        setting, readings = receiver.setting, receiver.there()
        for number in receiver.questions:
            question, known = receiver.question(number), receiver.known(number)
            self.assertIsNotNone(judge_known(setting, question, readings, known))
            for address, box, verdict in receiver.verdicts(number):
                self.assertEqual(cell_at(question.root, address), box)
                if verdict == "out":
                    paper = receiver.paper(number, address)
                    self.assertEqual(paper, Paper(tuple(known), paper.trees, paper.steps))
                    self.assertTrue(judge_paper(setting, question, readings, paper, box))
                if verdict == "in":
                    self.assertTrue(judge_witness(setting, question, readings, receiver.witness(number, address), box))


class GoingOn(Case):
    """A receiver that is saved and loaded goes on as the one that was saved."""

    def test_whole_runs(self):
        verdicts = {}
        for seed in range(24):
            busy = Busy(seed + 300).go_on(25)
            for _ in range(3):
                text = save(busy.receiver)
                self.assertEqual(text, text_of(busy.receiver))
                loaded = load(text)
                self.assertEqual(save(loaded), text)
                self.assertEqual(state_of(loaded), state_of(busy.receiver))
                self.assertEqual(text, save(busy.receiver))
                for _ in range(15):
                    call = busy.call()
                    before = copy.deepcopy(call)
                    told = getattr(loaded, call[0])(*call[1:])
                    self.assertEqual(told, busy.do(call), call[0])
                    self.assertEqual(call, before)
                self.assertEqual(state_of(loaded), state_of(busy.receiver))
                self.assertEqual(save(loaded), save(busy.receiver))
            for number in busy.receiver.questions:
                for _, _, verdict in busy.receiver.verdicts(number):
                    verdicts[verdict] = verdicts.get(verdict, 0) + 1
        self.assertGreater(min(verdicts.get(verdict, 0) for verdict in ("out", "in", "open")), 15, verdicts)

    def test_what_was_saved_and_what_was_loaded_are_two(self):
        busy = Busy(1).go_on(20)
        before = save(busy.receiver)
        loaded = load(before)
        loaded.put(busy.a_reading()), loaded.pin(), loaded.raise_floor(5), loaded.end(loaded.questions[0])
        self.assertEqual(save(busy.receiver), before)

    def test_what_is_refused_is_refused_again(self):
        receiver = load(asking())
        for call, arguments in ((receiver.end, (2,)), (receiver.unpin, (0,)), (receiver.ledger.readings, (1,)),
                                (receiver.refute, (1, "2", (), ())), (receiver.put, (a_reading(kind=("range", (0,))),)),
                                (receiver.ask, (a_question(root=((0, 1),)),))):
            self.assertIsNotNone(raised(call, *arguments))
        self.assertEqual(save(receiver), asking())


if __name__ == "__main__":
    unittest.main()
