"""Witnesses, and the ways that go straight through their points."""

from sureplace.numbers.bounds import ascending
from sureplace.numbers.quotients import quotient_up


class Witness:
    """Liars, and points (moment, place, offset) of a way that all others agree with."""

    def __init__(self, liars, points):
        self.liars = liars
        self.points = points

    def __eq__(self, other):
        return isinstance(other, Witness) and self.liars == other.liars and self.points == other.points


def ascend(points):
    """Tell whether the moment of each point is after the one before."""
    return ascending([point[0] for point in points])


def _many_up_to(points, moment):
    """How many points are not after the moment."""
    low, high = 0, len(points)
    while low < high:
        half = (low + high) // 2
        if points[half][0] <= moment:
            low = half + 1
        else:
            high = half
    return low


def _at(point):
    """The box of a single place and offset."""
    return tuple([(number, number) for number in point[1:]])


def way_at(points, moment):
    """The least box of whole numbers in which the way is at the moment."""
    many = _many_up_to(points, moment)
    if many == 0:
        return _at(points[0])
    before = points[many - 1]
    if many == len(points):
        return _at(before)
    after = points[many]
    gone, to_go, ticks = moment - before[0], after[0] - moment, after[0] - before[0]
    numbers = [one * to_go + other * gone for one, other in zip(before[1:], after[1:])]
    return tuple([(number // ticks, quotient_up(number, ticks)) for number in numbers])
