"""The judge of witnesses."""

from sureplace.given.questions import asked
from sureplace.kinds.spans import span
from sureplace.numbers.boxes import inside
from sureplace.numbers.roots import root_up
from sureplace.witness.ways import ascend, way_at
from sureplace.witness.widening import margin, stretch


def _apart(setting, point, later):
    """In units of 1 / per, how far apart the points are: the square for the places, and for the clocks."""
    squares = sum([(number - other) ** 2 for number, other in zip(point[1:-1], later[1:-1])])
    return setting.per ** 2 * squares, setting.per * abs(point[-1] - later[-1])


def _can_go(setting, slack, point, later):
    """Tell whether one can go from the point to the later one, but for the slack in units of 1 / per."""
    ticks = later[0] - point[0]
    squares, clocks = _apart(setting, point, later)
    return squares <= (setting.speed * ticks + slack) ** 2 and clocks <= setting.drift * ticks + slack


def _steps_within(setting, slack, points):
    """Tell whether the steps from each point to the next one are, all together, within the slack."""
    far, off = 0, 0
    for point, later in zip(points, points[1:]):
        ticks = later[0] - point[0]
        squares, clocks = _apart(setting, point, later)
        far += max(0, root_up(squares) - setting.speed * ticks)
        off += max(0, clocks - setting.drift * ticks)
    return far <= slack and off <= slack


def _can_go_all(setting, slack, points):
    """Tell whether one can go from each point to each later one, but for the slack."""
    # No two points are farther apart than the steps between them; there can be very many pairs.
    if _steps_within(setting, slack, points):
        return True
    for place, point in enumerate(points):
        for later in points[place + 1:]:
            if not _can_go(setting, slack, point, later):
                return False
    return True


class Hearing:
    """Judges witnesses by the same readings."""

    def __init__(self, setting, question, readings):
        self.setting = setting
        self.question = question
        self.slack = setting.per * stretch(setting, question, readings)
        self.asks = [(reading, margin(setting, question, reading)) for number, reading in asked(question, readings)]

    def agrees(self, witness):
        """Tell whether the way keeps all readings but those of the liars, each but for its margin."""
        for reading, more in self.asks:
            if reading.source not in witness.liars:
                least, greatest = span(reading.kind, way_at(witness.points, reading.moment))
                if least < reading.low - more or greatest > reading.high + more:
                    return False
        return True

    def accepts(self, witness, box):
        """Tell whether the witness shows that the receiver can have been in the box."""
        points = witness.points
        if len(witness.liars) > self.question.liars or len(points) == 0 or not ascend(points):
            return False
        here = way_at(points, self.question.moment)
        return (inside(here, box) and inside(here, self.question.root)
                and _can_go_all(self.setting, self.slack, points) and self.agrees(witness))


def judge_witness(setting, question, readings, witness, box):
    """Tell whether the witness shows that the receiver can have been in the box."""
    hearing = Hearing(setting, question, readings)
    return hearing.accepts(witness, box)
