"""Settings: the number of directions, and the bounds of motion."""

from sureplace.errors import InvalidSetting
from sureplace.numbers.bounds import LIMIT, all_within


class Setting:
    """In per ticks the place moves by at most speed, and the clock's offset by at most drift."""

    def __init__(self, dims, *, speed, drift, per):
        if not 2 <= dims <= 3:
            raise InvalidSetting("there are not two or three directions")
        if not all_within((speed, drift), 0, LIMIT):
            raise InvalidSetting("the speed or the drift is out of bounds")
        if not 1 <= per <= LIMIT:
            raise InvalidSetting("the number of ticks is out of bounds")
        self.dims = dims
        self.speed = speed
        self.drift = drift
        self.per = per

    def __eq__(self, other):
        return (isinstance(other, Setting) and self.dims == other.dims and self.speed == other.speed
                and self.drift == other.drift and self.per == other.per)
