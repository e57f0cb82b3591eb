"""By how much witnesses may be beyond the bounds of motion and of readings."""

from sureplace.given.questions import asked
from sureplace.kinds.exclusion import clock_rate, moved, rate
from sureplace.motion.going import reach, slip
from sureplace.numbers.boxes import half_side
from sureplace.numbers.roots import root_up


def cell_radius(setting, share):
    """A distance from its middle that no place of a cell with sides of the share exceeds."""
    half = half_side((0, share))
    return root_up(setting.dims * half * half)


def stretch(setting, question, readings):
    """By how much farther than one can go two points of a witness may be apart."""
    moments = [reading.moment for number, reading in asked(question, readings)]
    return 2 * cell_radius(setting, question.share) * len(set([question.moment] + moments))


def spread(setting, share, kind):
    """How much a value of the kind changes at most, over a box with sides of the share."""
    return rate(kind) * (2 * cell_radius(setting, share) + 2) + clock_rate(kind) * share


def margin(setting, question, reading):
    """By how much a witness may be beyond the bounds of the reading."""
    kind = reading.kind
    late = rate(kind) * reach(setting, reading.late) + clock_rate(kind) * slip(setting, reading.late)
    return moved(kind) * reading.near + late + spread(setting, question.share, kind)
