"""How far the receiver and its clock can go in some ticks."""

from sureplace.kinds.spans import between, gap
from sureplace.numbers.quotients import quotient_up


def reach(setting, ticks):
    """How far away a place is at most after some ticks."""
    return quotient_up(setting.speed * ticks, setting.per)


def slip(setting, ticks):
    """By how much an offset has changed at most after some ticks."""
    return quotient_up(setting.drift * ticks, setting.per)


def clocks_farther(setting, ticks, box, other):
    """Tell whether the clocks of the boxes are farther apart than they can drift in some ticks."""
    return setting.per * gap(box[-1], other[-1]) > setting.drift * ticks


def farther(setting, ticks, box, other):
    """Tell whether the boxes are farther apart than one can go in some ticks."""
    # The speed itself is compared, as the reach is rounded.
    places = setting.per ** 2 * between(box[:-1], other[:-1])
    return places > (setting.speed * ticks) ** 2 or clocks_farther(setting, ticks, box, other)


def widened(setting, ticks, box):
    """The box in which one is some ticks before or after one was in the box."""
    far = reach(setting, ticks)
    off = slip(setting, ticks)
    early, late = box[-1]
    return tuple([(low - far, high + far) for low, high in box[:-1]]) + ((early - off, late + off),)
