"""What readings exclude at a moment, for many boxes."""

from sureplace.kinds.exclusion import allowed, misses


class Sight:
    """Readings, carried to a moment."""

    def __init__(self, setting, readings, moment):
        self.moment = moment
        # How far a reading is carried does not depend on the box.
        self.rows = [(number, reading, allowed(setting, reading, moment)) for number, reading in readings]

    def first(self, box):
        """The first of the readings that exclude the box, with its number; None if there is none."""
        for number, reading, bounds in self.rows:
            if misses(reading.kind, bounds, box):
                return number, reading
        return None

    def every(self, box):
        """The readings that exclude the box, with their numbers."""
        return [(number, reading) for number, reading, bounds in self.rows if misses(reading.kind, bounds, box)]
