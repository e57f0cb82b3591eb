"""Chains: boxes, one of each layer, from each of which one can go to the next one."""

from sureplace.kinds.spans import between
from sureplace.motion.going import clocks_farther, farther
from sureplace.numbers.quotients import quotient_up
from sureplace.numbers.roots import root_up
from sureplace.tracks.links import chain_or_barrier, places_alive, places_ending


def _ticks(layer, other):
    """The number of ticks between two layers."""
    return abs(other.moment - layer.moment)


def _linked_with(pace, layer, place, other):
    """The places of the boxes of the other layer that are linked with the box at the place."""
    ticks, box = _ticks(layer, other), layer.boxes[place]
    return tuple([number for number, there in enumerate(other.boxes) if not farther(pace, ticks, box, there)])


def linked(pace, layer, other):
    """For each box of the layer the places of the boxes of the other one that are linked with it."""
    return [_linked_with(pace, layer, place, other) for place in range(len(layer.boxes))]


def _links(pace, layers):
    """The links of the layers."""
    return [linked(pace, layer, other) for layer, other in zip(layers, layers[1:])]


def alive(pace, layers):
    """For each layer the places of the boxes that are part of a chain."""
    return places_alive(layers, _links(pace, layers))


def judge_chain(pace, layers, chain):
    """Tell whether the places are a chain."""
    if len(chain) != len(layers):
        return False
    if not all([0 <= place < len(layer.boxes) for place, layer in zip(chain, layers)]):
        return False
    boxes = [layer.boxes[place] for place, layer in zip(chain, layers)]
    pairs = list(zip(layers, layers[1:], boxes, boxes[1:]))
    return not any([farther(pace, _ticks(layer, other), box, there) for layer, other, box, there in pairs])


def _passes_on(pace, layer, other, marked, following):
    """Tell whether all boxes of the other layer that are linked with a marked box are marked, too."""
    wanted = set(following)
    for place in marked:
        if 0 <= place < len(layer.boxes):
            if not all([number in wanted for number in _linked_with(pace, layer, place, other)]):
                return False
    return True


def judge_barrier(pace, layers, marks):
    """Tell whether the marks show that there is no chain."""
    if len(layers) == 0 or len(marks) != len(layers) or len(marks[-1]) > 0:
        return False
    if not all([place in marks[0] for place in range(len(layers[0].boxes))]):
        return False
    pairs = list(zip(layers, layers[1:], marks, marks[1:]))
    return all([_passes_on(pace, layer, other, marked, following) for layer, other, marked, following in pairs])


def find(pace, layers):
    """("chain", the first chain), or ("barrier", marks)."""
    return chain_or_barrier(layers, _links(pace, layers))


def has_chain(pace, layers):
    """Tell whether there is a chain."""
    return all(places_ending(layers, _links(pace, layers)))


def _needed(pace, ticks, box, other):
    """The least speed at which the boxes are linked; None if their clocks are too far apart."""
    if clocks_farther(pace, ticks, box, other):
        return None
    # A whole number of steps, speed * ticks, is compared with the root: so the root may be rounded up.
    return quotient_up(root_up(pace.per ** 2 * between(box[:-1], other[:-1])), ticks)


def _least_to(pace, ticks, reached, box):
    """The least speed at which a chain ends with the box; reached has boxes and the least speeds of theirs."""
    speeds = []
    for before, speed in reached:
        needed = _needed(pace, ticks, before, box)
        if needed is not None:
            speeds.append(max(speed, needed))
    return min(speeds, default=None)


def least_speed(pace, layers):
    """The least speed at which there is a chain; None if there is none at any speed."""
    if len(layers) == 0:
        return 0
    reached = [(box, 0) for box in layers[0].boxes]
    for layer, other in zip(layers, layers[1:]):
        speeds = [(box, _least_to(pace, _ticks(layer, other), reached, box)) for box in other.boxes]
        reached = [(box, speed) for box, speed in speeds if speed is not None]
    return min([speed for box, speed in reached], default=None)
