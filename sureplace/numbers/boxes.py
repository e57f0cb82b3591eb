"""Boxes: tuples of sides, each a pair (low, high) whose ends belong to it."""

from sureplace.numbers.roots import root_up


def middle(box):
    """The middles of the sides."""
    return tuple([(low + high) // 2 for low, high in box])


def half_side(side):
    """Half of a side, rounded up."""
    low, high = side
    return (high - low + 1) // 2


def radius(box):
    """A distance from the middle that no place of the box exceeds; the clock plays no part."""
    return root_up(sum([half_side(side) ** 2 for side in box[:-1]]))


def inside(box, other):
    """Tell whether each side of the box lies within that of the other one."""
    return all([least <= low and high <= greatest for (low, high), (least, greatest) in zip(box, other)])


def is_small(box, share):
    """Tell whether no side is longer than the share."""
    return all([high - low <= share for low, high in box])


def widest(box):
    """The axis of the longest side, the first one of several."""
    lengths = [high - low for low, high in box]
    return lengths.index(max(lengths))


def cut(box, axis, place):
    """The two parts of the box, cut across the axis at the place; None if it cannot be cut so."""
    if not 0 <= axis < len(box):
        return None
    low, high = box[axis]
    if not low < place < high:
        return None
    first = box[:axis] + ((low, place),) + box[axis + 1:]
    second = box[:axis] + ((place, high),) + box[axis + 1:]
    return first, second


def halves(box):
    """The two parts of the box, cut in the middle of its longest side; None if all sides are short."""
    axis = widest(box)
    low, high = box[axis]
    return cut(box, axis, (low + high) // 2)


def cell_at(box, address):
    """The cell of the box at the address; None if a cell on the way has no halves."""
    cell = box
    for sign in address:
        parts = halves(cell)
        if parts is None:
            return None
        first, second = parts
        cell = first if sign == "0" else second
    return cell
