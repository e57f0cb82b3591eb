"""Lines of scripts (points [116], [117], [121] and [122])."""

import unittest

from sureplace.errors import InvalidText
from sureplace.scripts.lines import read_deed, write_deed
from sureplace.search.plans import Plan
from tests.helpers import a_question, a_reading, a_setting, any_kind, dice

FLAT, DEEP = a_setting(2), a_setting(3)
R = "a 0 side 1 0 0 9 0 0"
Q = "0 0 8 0 0 0 0 1 2 -9 9"
FAR = 10 ** 18

READING = a_reading("a", 0, ("side", (1, 0)), low=0, high=9)
QUESTION = a_question(0, ((0, 8), (0, 0), (0, 0)), liars=1, share=2, earliest=-9, latest=9)
PLAN = Plan((-3, 0, 7), grain=5, most=6, without=((), ("a", "b"), ("c",)))
DEEDS = (
    ("put " + R, ("put", READING)),
    ("correct 7 " + R, ("correct", 7, READING)),
    ("withdraw 0", ("withdraw", 0)),
    ("pin", ("pin",)),
    ("unpin 1000000", ("unpin", 1000000)),
    ("floor 3", ("floor", 3)),
    ("readings 4", ("readings", 4)),
    ("ask " + Q, ("ask", QUESTION)),
    ("end 1", ("end", 1)),
    ("search 1 80 5 6 3 -3 0 7 3 0 2 a b 1 c", ("search", 1, 80, PLAN)),
    ("search 2 0 1 1 0 0", ("search", 2, 0, Plan((), grain=1, most=1, without=()))),
    ("told 1", ("told", 1)),
    ("level 1 -3 4", ("level", 1, (-3, 4))),
    ("save", ("save",)),
)


def place_of(text, setting=FLAT):
    """The place at which the line is no deed; None if it is one."""
    try:
        read_deed(text, setting)
    except InvalidText as error:
        return error.place
    return None


class Deeds(unittest.TestCase):
    def test_they_are_read_and_written(self):
        for line, deed in DEEDS:
            told = read_deed(line, FLAT)
            self.assertEqual(told, deed)
            self.assertIs(type(told), tuple)
            self.assertEqual(write_deed(deed), line)

    def test_directions(self):
        deed = ("level", 1, (1, 2, 3))
        self.assertEqual(read_deed("level 1 1 2 3", DEEP), deed)
        self.assertEqual(write_deed(deed), "level 1 1 2 3")
        self.assertEqual((place_of("level 1 1 2 3"), place_of("level 1 1 2", DEEP)), (4, 4))
        self.assertEqual((place_of("put " + R, DEEP), place_of("ask " + Q, DEEP)), (10, 12))
        reading = "a 0 range 1 2 3 0 9 0 0"
        self.assertEqual(read_deed("put " + reading, DEEP), ("put", a_reading("a", 0, ("range", (1, 2, 3)), high=9)))
        self.assertEqual(place_of("put " + reading), 10)

    def test_any_deed(self):
        """A deed that is written as a line is read as the same deed."""
        chance = dice(1)
        for _ in range(400):
            setting = chance.choice((FLAT, DEEP))
            deed = self.a_deed(chance, setting.dims)
            line = write_deed(deed)
            self.assertEqual(read_deed(line, setting), deed)
            self.assertEqual(write_deed(read_deed(line, setting)), line)

    def a_deed(self, chance, dims):
        def number():
            return chance.choice((0, 1, chance.randint(-9, 9), chance.randint(-10 ** 12, 10 ** 12)))

        count = chance.choice((0, 1, 1000000, chance.randint(0, 99)))
        reading = a_reading("s_-9", number(), any_kind(chance, dims), low=-chance.randint(0, 10 ** 15),
                            high=chance.randint(0, 10 ** 15), late=abs(number()), near=abs(number()))
        root = tuple(tuple(sorted((number(), number()))) for _ in range(dims + 1))
        low, high = sorted((number(), number()))
        question = a_question(number(), root, liars=chance.randint(0, 3), share=chance.randint(1, 10 ** 12),
                              earliest=low, latest=high)
        plan = Plan(tuple(sorted({number() for _ in range(chance.randint(0, 16))})), grain=chance.randint(1, FAR),
                    most=chance.randint(1, FAR),
                    without=tuple(tuple(chance.sample("abcde", chance.randint(0, 3)))
                                  for _ in range(chance.randint(0, 8))))
        parts = {"put": (reading,), "correct": (count, reading), "withdraw": (count,), "pin": (), "unpin": (count,),
                 "floor": (count,), "readings": (count,), "ask": (question,), "end": (count,),
                 "search": (count, chance.randint(0, 1000000), plan), "told": (count,),
                 "level": (count, tuple(number() for _ in range(dims))), "save": ()}
        word = chance.choice(sorted(parts))
        return (word,) + parts[word]


class NoDeeds(unittest.TestCase):
    def test_the_first_word(self):
        for line in ("", " ", "Put " + R, "puts", "setting 2 3 0 1", "setting", " pin", "0", "pin_", "told1"):
            self.assertEqual(place_of(line), 0, line)

    def test_a_word_more_or_less(self):
        for line, _ in DEEDS:
            words = line.split(" ")
            for more in ("0", "x", ""):
                self.assertEqual(place_of(f"{line} {more}"), len(words), line)
            for many in range(1, len(words)):
                self.assertEqual(place_of(" ".join(words[:many])), many, line)
                for wrong in ("", "No", "1.5"):
                    changed = words[:many] + [wrong] + words[many + 1:]
                    self.assertEqual(place_of(" ".join(changed)), many, changed)

    def test_counts(self):
        for begin, end in (("correct", R), ("withdraw", ""), ("unpin", ""), ("floor", ""), ("readings", ""),
                           ("end", ""), ("told", ""), ("search", "1 1 1 0 0"), ("search 1", "1 1 0 0"),
                           ("level", "0 0")):
            for number, told in (("0", True), ("1000000", True), ("1000001", False), ("-1", False), ("01", False),
                                 ("x", False)):
                line = f"{begin} {number} {end}".strip()
                self.assertEqual(place_of(line), None if told else len(begin.split(" ")), line)

    def test_readings_that_cannot_be_made(self):
        for reading in ("a 0 side 0 0 0 9 0 0", "a 0 side 1 0 9 0 0 0", "a 1000000000001 side 1 0 0 9 0 0",
                        "a 0 boxes 0 0 9 0 0", "a 0 range 0 0 0 0 -1 0", "a 0 boxes 1 1 0 0 0 0 9 0 0"):
            place = len(reading.split(" "))
            for more in ("", " x", " 0"):
                self.assertEqual(place_of(f"put {reading}{more}"), 1 + place, reading)
                self.assertEqual(place_of(f"correct 5 {reading}{more}"), 2 + place, reading)
        self.assertEqual((place_of("put A 0 side 1 0 0 9 0 0"), place_of("put a 0 sides 1 0 0 9 0 0")), (1, 3))
        self.assertEqual(place_of(f"put a {FAR + 1} side 1 0 0 9 0 0"), 2)

    def test_questions_that_cannot_be_made(self):
        for question in ("0 0 8 0 0 0 0 4 2 -9 9", "0 8 0 0 0 0 0 1 2 -9 9", "0 0 8 0 0 0 0 1 0 -9 9",
                         "0 0 8 0 0 0 0 1 2 9 -9", "1000000000001 0 8 0 0 0 0 1 2 -9 9"):
            for more in ("", " x", " 0"):
                self.assertEqual(place_of(f"ask {question}{more}"), 12, question)
        self.assertEqual(place_of(f"ask 0 0 8 0 0 0 0 1 2 -9 {FAR + 1}"), 11)

    def test_plans_that_cannot_be_made(self):
        seventeen = " ".join(str(k) for k in range(17))
        for plan, told in (("1 1 0 0", True), ("0 1 0 0", False), ("1 0 0 0", False), ("-1 1 0 0", False),
                           ("1 1 2 3 3 0", False), ("1 1 2 3 2 0", False), ("1 1 2 2 3 0", True),
                           (f"1 1 17 {seventeen} 0", False), (f"1 1 16 {seventeen[:-3]} 0", True),
                           ("1 1 0 8 0 0 0 0 0 0 0 0", True), ("1 1 0 9 0 0 0 0 0 0 0 0 0", False),
                           (f"{FAR} {FAR} 1 {FAR} 0", True)):
            place = 3 + len(plan.split(" "))
            self.assertEqual(place_of(f"search 1 1 {plan}"), None if told else place, plan)
            for more in (" 0", " x"):
                self.assertEqual(place_of(f"search 1 1 {plan}{more}"), place, plan)
        for plan, place in ((f"{FAR + 1} 1 0 0", 3), (f"1 {FAR + 1} 0 0", 4), ("1 1 -1 0", 5), ("1 1 1000001", 5),
                            (f"1 1 1 {FAR + 1} 0", 6), ("1 1 0 -1", 6), ("1 1 0 1 1 A", 8), ("1 1 0 1 -1", 7)):
            self.assertEqual(place_of(f"search 1 1 {plan}"), place, plan)

    def test_places_of_levels(self):
        for place, told in ((f"{FAR} {-FAR}", None), (f"{FAR + 1} 0", 2), (f"0 {-FAR - 1}", 3), ("0 x", 3)):
            self.assertEqual(place_of(f"level 1 {place}"), told)


if __name__ == "__main__":
    unittest.main()
