"""Readings: what a source tells of the receiver at a moment."""

from sureplace.errors import InvalidReading
from sureplace.given.names import is_name
from sureplace.numbers.bounds import LIMIT, all_within, sides_within

FAR = 10 ** 15
STEEPEST = 1000
MOST_BOXES = 16


def _direction_holds(direction):
    """Tell whether the numbers are in bounds, and not all of them are 0."""
    return all_within(direction, -STEEPEST, STEEPEST) and any([number != 0 for number in direction])


def _boxes_hold(boxes):
    """Tell whether there are neither too few nor too many boxes, all of them in bounds."""
    return 1 <= len(boxes) <= MOST_BOXES and all([sides_within(box, LIMIT) for box in boxes])


def _kind_holds(kind):
    """Tell whether the kind is one of the six, with numbers in bounds."""
    if kind[0] in ("range", "clocked", "differ", "piece"):
        return all([all_within(point, -LIMIT, LIMIT) for point in kind[1:]])
    if kind[0] == "side":
        return _direction_holds(kind[1])
    return kind[0] == "boxes" and _boxes_hold(kind[1])


class Reading:
    """The value of the kind was from low to high, but for late ticks and for near in its points."""

    def __init__(self, source, moment, kind, *, low, high, late=0, near=0):
        if not is_name(source):
            raise InvalidReading("the source is not a name")
        if not -LIMIT <= moment <= LIMIT:
            raise InvalidReading("the moment is out of bounds")
        if not _kind_holds(kind):
            raise InvalidReading("the kind is none of the six, or out of bounds")
        if not -FAR <= low <= high <= FAR:
            raise InvalidReading("the bounds are out of order, or out of bounds")
        if not all_within((late, near), 0, LIMIT):
            raise InvalidReading("late or near is out of bounds")
        self.source = source
        self.moment = moment
        self.kind = kind
        self.low = low
        self.high = high
        self.late = late
        self.near = near

    def __eq__(self, other):
        return (isinstance(other, Reading) and self.source == other.source and self.moment == other.moment
                and self.kind == other.kind and self.low == other.low and self.high == other.high
                and self.late == other.late and self.near == other.near)


def reading_fits(setting, reading):
    """Tell whether the kind has as many directions as the setting."""
    kind = reading.kind
    parts = kind[1] if kind[0] == "boxes" else kind[1:]
    return all([len(part) == setting.dims for part in parts])


def says_as_much(reading, other):
    """Tell whether the reading says at least as much as the other one."""
    return (reading.source == other.source and reading.moment == other.moment and reading.kind == other.kind
            and other.low <= reading.low and reading.high <= other.high
            and reading.late <= other.late and reading.near <= other.near)
