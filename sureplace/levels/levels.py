"""Levels: between which distances from a place the receiver can have been."""

from sureplace.kinds.spans import farthest, nearest
from sureplace.numbers.roots import root_down, root_up
from sureplace.witness.ways import way_at


def level_above(place, boxes):
    """The distance of the farthest corner of the boxes from the place, rounded up; 0 if there are no boxes."""
    return root_up(max([farthest(place, box[:-1]) for box in boxes], default=0))


def level_below(place, moment, witnesses):
    """The greatest distance of the place from where a way is at the moment, rounded down; 0 if there are none."""
    ways = [way_at(witness.points, moment) for witness in witnesses]
    return root_down(max([nearest(place, box[:-1]) for box in ways], default=0))
