"""Words (points [91] and [92])."""

import unittest

from sureplace.errors import InvalidText
from sureplace.texts.words import Words, is_integer

FAR = 10 ** 18


class Integers(unittest.TestCase):
    def test_integers(self):
        for word in ("0", "7", "10", "-1", "-10", "99999999999999999999", "-99999999999999999999", "1" + "0" * 19):
            self.assertIs(is_integer(word), True, word)

    def test_others(self):
        for word in ("", "-", "--1", "-0", "00", "01", "-01", "+1", "1.0", "1e3", "a", "1a", "a1", "1-", "1 ", " 1", "1_0",
                     "0x1", "1" + "0" * 20, "-1" + "0" * 20, "\u00b2", "\u0663", "1\n"):
            self.assertIs(is_integer(word), False, word)


class Case(unittest.TestCase):
    def refused(self, words, call, *arguments, place):
        """The call raises InvalidText, and reads nothing."""
        before = words.place
        with self.assertRaises(InvalidText) as caught:
            call(*arguments)
        self.assertEqual((caught.exception.place, words.place), (place, before))


class Reading(Case):
    def test_from_left_to_right(self):
        words = Words("one 2 -3 four 5")
        self.assertEqual((words.place, words.ended()), (0, False))
        self.assertEqual((words.peek(), words.place), ("one", 0))
        self.assertEqual([words.word(("two", "one")), words.place], ["one", 1])
        self.assertEqual([words.number(), words.place], [2, 2])
        self.assertEqual([words.number(-3, -3), words.place], [-3, 3])
        self.assertEqual([words.name(), words.place], ["four", 4])
        self.assertIs(words.ended(), False)
        self.assertEqual([words.length(), words.place], [5, 5])
        self.assertIs(words.ended(), True)

    def test_an_empty_text_has_one_word(self):
        words = Words("")
        self.assertIs(words.ended(), False)
        self.assertEqual(words.peek(), "")
        for call, arguments in ((words.word, (("a",),)), (words.number, ()), (words.length, ()), (words.name, ())):
            self.refused(words, call, *arguments, place=0)
        self.assertEqual(words.word(("a", "")), "")
        self.assertIs(words.ended(), True)

    def test_exactly_one_space(self):
        for text, place in ((" 1 2", 0), ("1  2", 1), ("1 2 ", 2)):
            words = Words(text)
            for _ in range(place):
                words.number()
            self.assertEqual(words.peek(), "")
            self.refused(words, words.number, place=place)

    def test_nothing_is_left(self):
        words = Words("a")
        words.name()
        for call, arguments in ((words.word, (("a",),)), (words.number, ()), (words.length, ()), (words.name, ()),
                                (words.peek, ()), (words.word, (("",),))):
            self.refused(words, call, *arguments, place=1)

    def test_one_of_the_words(self):
        words = Words("cut cut")
        words.word(("cut",))
        for others in ((), ("open",), ("cu", "cutt", "Cut"), ("",)):
            self.refused(words, words.word, others, place=1)
        self.assertEqual(words.word(("open", "cut")), "cut")

    def test_numbers(self):
        for low, high, text, told in ((0, 5, "0", True), (0, 5, "5", True), (0, 5, "6", False), (0, 5, "-1", False),
                                      (-5, -4, "-5", True), (-5, -4, "-6", False), (5, 4, "5", False),
                                      (0, 5, "05", False), (0, 5, "-0", False), (0, 5, "x", False)):
            words = Words(text)
            if told:
                self.assertEqual(words.number(low, high), int(text))
            else:
                self.refused(words, words.number, low, high, place=0)
        self.assertEqual(Words("7").number(low=7, high=7), 7)

    def test_numbers_without_bounds_of_their_own(self):
        for number in (FAR, -FAR, 0):
            self.assertEqual(Words(str(number)).number(), number)
        for number in (FAR + 1, -FAR - 1, 10 ** 19, 10 ** 20):
            words = Words(str(number))
            self.refused(words, words.number, place=0)
        self.assertEqual(Words(str(FAR + 1)).number(high=FAR + 1), FAR + 1)
        self.assertEqual(Words(str(10 ** 20 - 1)).number(0, 10 ** 30), 10 ** 20 - 1)
        words = Words(str(10 ** 20))
        self.refused(words, words.number, 0, 10 ** 30, place=0)

    def test_counts(self):
        for text in ("0", "1", "1000000"):
            self.assertEqual(Words(text).length(), int(text))
        for text in ("-1", "1000001", "01", "", "a"):
            words = Words(text)
            self.refused(words, words.length, place=0)

    def test_names(self):
        for text in ("a", "7", "-", "_", "no_such-9", "x" * 64):
            self.assertEqual(Words(text).name(), text)
        for text in ("", "A", "x" * 65, "a.b", "~"):
            words = Words(text)
            self.refused(words, words.name, place=0)

    def test_equal_only_to_itself(self):
        words = Words("a")
        self.assertTrue(words == words)
        self.assertFalse(words == Words("a"))


if __name__ == "__main__":
    unittest.main()
