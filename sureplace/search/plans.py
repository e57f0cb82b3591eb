"""Plans: how a search goes about."""

from sureplace.errors import InvalidPlan
from sureplace.numbers.bounds import ascending

MOST_MOMENTS = 16
MOST_TUPLES = 8


class Plan:
    """At which moments to know how much, as finely as the grain, without the readings of which sources."""

    def __init__(self, moments, *, grain, most, without):
        if len(moments) > MOST_MOMENTS or not ascending(moments):
            raise InvalidPlan("there are too many moments, or they do not ascend")
        if grain < 1 or most < 1:
            raise InvalidPlan("the grain or the greatest number of boxes is less than 1")
        if len(without) > MOST_TUPLES:
            raise InvalidPlan("there are too many tuples of names")
        self.moments = moments
        self.grain = grain
        self.most = most
        self.without = without

    def __eq__(self, other):
        return (isinstance(other, Plan) and self.moments == other.moments and self.grain == other.grain
                and self.most == other.most and self.without == other.without)
