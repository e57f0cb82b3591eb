"""Names of sources (point [8])."""

import unittest

from sureplace.given.names import is_name

GOOD = "abcdefghijklmnopqrstuvwxyz0123456789_-"


class Names(unittest.TestCase):
    def test_the_lengths(self):
        for length, good in ((0, False), (1, True), (2, True), (63, True), (64, True), (65, False), (1000, False)):
            self.assertIs(is_name("a" * length), good, length)

    def test_every_sign_by_itself_and_among_others(self):
        for code in range(32, 127):
            sign = chr(code)
            for text in (sign, "a" + sign, sign + "z", "a" + sign + "0"):
                self.assertIs(is_name(text), sign in GOOD, text)

    def test_names(self):
        for text in ("a", "z9", "_", "-", "0", "north-tower_2", GOOD):
            self.assertIs(is_name(text), True, text)
        for text in ("", " ", "A", "north tower", "a.b", "a ", " a", "~"):
            self.assertIs(is_name(text), False, text)


if __name__ == "__main__":
    unittest.main()
