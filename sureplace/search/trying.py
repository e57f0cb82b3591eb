"""Witnesses that are tried for a cell."""

from sureplace.motion.going import farther
from sureplace.numbers.boxes import middle
from sureplace.witness.ways import Witness


def _first_near(setting, ticks, box, cover):
    """The first box of the cover to which one can go in these ticks; None if there is none."""
    for other in cover:
        if not farther(setting, ticks, other, box):
            return other
    return None


def _points(setting, moment, box, things):
    """The middles of the boxes through which one can go from the box, with their moments."""
    points = []
    for thing in things:
        following = _first_near(setting, abs(thing.moment - moment), box, thing.cover)
        if following is not None:
            moment, box = thing.moment, following
            points.append((moment,) + middle(box))
    return points


def _fitting(rows, names, sources):
    """The first row whose names are, among the sources, exactly these; None if there is none."""
    for row in rows:
        if all([(source in row.names) == (source in names) for source in sources]):
            return row
    return None


def tried(setting, question, rows, sources, names, box):
    """The witness that is tried for the cell's box, with these names as liars."""
    here = (question.moment,) + middle(box)
    row = _fitting(rows, names, sources)
    if row is None:
        return Witness(names, (here,))
    before = _points(setting, question.moment, box, row.before)
    after = _points(setting, question.moment, box, row.after)
    return Witness(names, tuple(list(reversed(before)) + [here] + after))
