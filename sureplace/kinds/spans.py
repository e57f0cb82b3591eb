"""Spans: between which numbers the value of a kind lies, over a box."""

from sureplace.numbers.boxes import middle, radius
from sureplace.numbers.quotients import quotient_up
from sureplace.numbers.roots import root_down, root_up


def gap(side, other):
    """The distance of two sides from each other, 0 if they have a number in common."""
    return max(0, other[0] - side[1], side[0] - other[1])


def nearest(point, box):
    """The squared distance of the point from the nearest place of a box of places."""
    return sum([gap((number, number), side) ** 2 for number, side in zip(point, box)])


def farthest(point, box):
    """The squared distance of the point from the farthest place of a box of places."""
    return sum([max(number - low, high - number) ** 2 for number, (low, high) in zip(point, box)])


def distances(point, box):
    """The distances from the nearest place, rounded down, and from the farthest one, rounded up."""
    return root_down(nearest(point, box)), root_up(farthest(point, box))


def dot(one, two):
    """The sum of the products of two tuples."""
    return sum([number * other for number, other in zip(one, two)])


def _minus(point, other):
    """The way from the other point to the point."""
    return tuple([number - less for number, less in zip(point, other)])


def from_piece(point, at, to):
    """The squared distance of the point from the straight piece, rounded down and rounded up."""
    way = _minus(to, at)
    here = _minus(point, at)
    length = dot(way, way)
    along = dot(way, here)
    if along <= 0:
        return dot(here, here), dot(here, here)
    if along >= length:
        beyond = _minus(point, to)
        return dot(beyond, beyond), dot(beyond, beyond)
    # The nearest place lies within the piece, so the length is not 0.
    number = dot(here, here) * length - along * along
    return number // length, quotient_up(number, length)


def between(box, other):
    """The squared distance of the nearest places of two boxes of places."""
    return sum([gap(side, there) ** 2 for side, there in zip(box, other)])


def greatest_from(box, other):
    """The squared greatest distance of a place of the first box from the other one."""
    return sum([max(gap((low, low), there), gap((high, high), there)) ** 2
                for (low, high), there in zip(box, other)])


def _side_span(direction, places):
    """The least and the greatest sum of products at a corner."""
    products = [(number * low, number * high) for number, (low, high) in zip(direction, places)]
    return sum([min(pair) for pair in products]), sum([max(pair) for pair in products])


def _piece_span(at, to, box):
    """The distances of the middle from the piece, made wider by the radius."""
    least, greatest = from_piece(middle(box[:-1]), at, to)
    around = radius(box)
    return root_down(least) - around, root_up(greatest) + around


def _boxes_span(boxes, places):
    """The distances of the nearest places and of the farthest place, from the nearest box by each."""
    least = min([between(places, other) for other in boxes])
    greatest = min([greatest_from(places, other) for other in boxes])
    return root_down(least), root_up(greatest)


def span(kind, box):
    """The least and the greatest number that the value of the kind can have in the box."""
    places, (early, late) = box[:-1], box[-1]
    if kind[0] == "side":
        return _side_span(kind[1], places)
    if kind[0] == "piece":
        return _piece_span(kind[1], kind[2], box)
    if kind[0] == "boxes":
        return _boxes_span(kind[1], places)
    least, greatest = distances(kind[1], places)
    if kind[0] == "clocked":
        return least + early, greatest + late
    if kind[0] == "differ":
        least_less, greatest_less = distances(kind[2], places)
        return least - greatest_less, greatest - least_less
    return least, greatest
