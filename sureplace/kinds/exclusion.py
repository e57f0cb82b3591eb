"""Which boxes a reading excludes at a moment."""

from sureplace.kinds.spans import dot, span
from sureplace.motion.going import reach, slip
from sureplace.numbers.roots import root_up


def rate(kind):
    """By how much a value changes at most, for each unit of distance of places."""
    if kind[0] == "differ":
        return 2
    if kind[0] == "side":
        return root_up(dot(kind[1], kind[1]))
    return 1


def clock_rate(kind):
    """By how much a value changes, for each unit of the clock's offset."""
    return 1 if kind[0] == "clocked" else 0


def moved(kind):
    """By how much a value changes at most, for each unit by which points are wrong."""
    if kind[0] == "differ":
        return 2
    return 0 if kind[0] == "side" else 1


def carried(setting, reading, moment):
    """By how much the value at the moment can be beyond the bounds of the reading."""
    kind = reading.kind
    ticks = reading.late + abs(moment - reading.moment)
    far = rate(kind) * reach(setting, ticks)
    off = clock_rate(kind) * slip(setting, ticks)
    return moved(kind) * reading.near + far + off


def allowed(setting, reading, moment):
    """Between which numbers the value is at the moment, in a world that keeps the reading."""
    more = carried(setting, reading, moment)
    return reading.low - more, reading.high + more


def misses(kind, bounds, box):
    """Tell whether the span of the kind over the box has nothing between the bounds."""
    low, high = bounds
    least, greatest = span(kind, box)
    return greatest < low or least > high


def excludes(setting, reading, moment, box):
    """Tell whether no world that keeps the reading is in the box at the moment."""
    return misses(reading.kind, allowed(setting, reading, moment), box)
