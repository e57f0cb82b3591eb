"""Questions: where the receiver can have been at a moment."""

from sureplace.errors import InvalidQuestion
from sureplace.numbers.bounds import LIMIT, all_within, sides_within

MOST_LIARS = 3


class Question:
    """Where in the root was the receiver, by the readings from earliest to latest, with so many liars?"""

    def __init__(self, moment, root, *, liars, share, earliest, latest):
        if not all_within((moment, earliest, latest), -LIMIT, LIMIT):
            raise InvalidQuestion("a moment is out of bounds")
        if earliest > latest:
            raise InvalidQuestion("the earliest moment is after the latest one")
        if not sides_within(root, LIMIT):
            raise InvalidQuestion("a side of the root is out of order, or out of bounds")
        if not 0 <= liars <= MOST_LIARS:
            raise InvalidQuestion("the number of liars is out of bounds")
        if not 1 <= share <= LIMIT:
            raise InvalidQuestion("the share is out of bounds")
        self.moment = moment
        self.root = root
        self.liars = liars
        self.share = share
        self.earliest = earliest
        self.latest = latest

    def __eq__(self, other):
        return (isinstance(other, Question) and self.moment == other.moment and self.root == other.root
                and self.liars == other.liars and self.share == other.share
                and self.earliest == other.earliest and self.latest == other.latest)


def question_fits(setting, question):
    """Tell whether the root has a side for each direction of the setting, and one for the clock."""
    return len(question.root) == setting.dims + 1


def asked(question, readings):
    """The readings whose moments are from the earliest to the latest one, in their order."""
    return [(number, reading) for number, reading in readings
            if question.earliest <= reading.moment <= question.latest]
