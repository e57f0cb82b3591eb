"""Words: what texts consist of, with exactly one space between two of them."""

from sureplace.errors import InvalidText
from sureplace.given.names import is_name
from sureplace.numbers.bounds import VAST

MOST_DIGITS = 20
GREATEST_COUNT = 1000000


def is_integer(word):
    """Tell whether the word is an integer: digits without leading zeros, after a hyphen if it is negative."""
    digits = word[1:] if word.startswith("-") else word
    if len(digits) > MOST_DIGITS or not (digits.isascii() and digits.isdigit()):
        return False
    return digits[0] != "0" or word == "0"


class Words:
    """The words of a text, read from left to right; what cannot be read raises InvalidText."""

    def __init__(self, text):
        self.place = 0
        self._all = text.split(" ")

    def ended(self):
        """Tell whether all words were read."""
        return self.place == len(self._all)

    def peek(self):
        """The next word."""
        if self.ended():
            raise InvalidText(self.place)
        return self._all[self.place]

    def word(self, words):
        """Read the next word, one of these."""
        found = self.peek()
        if found not in words:
            raise InvalidText(self.place)
        self.place += 1
        return found

    def number(self, low=-VAST, high=VAST):
        """Read an integer from low to high."""
        found = self.peek()
        if not is_integer(found) or not low <= int(found) <= high:
            raise InvalidText(self.place)
        self.place += 1
        return int(found)

    def length(self):
        """Read a count."""
        return self.number(0, GREATEST_COUNT)

    def name(self):
        """Read a name."""
        found = self.peek()
        if not is_name(found):
            raise InvalidText(self.place)
        self.place += 1
        return found

    def finish(self):
        """Raise InvalidText if there are more words."""
        if not self.ended():
            raise InvalidText(self.place)
