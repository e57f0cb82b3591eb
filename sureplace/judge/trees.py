"""Trees: why the receiver was not in a box at a moment."""

from sureplace.kinds.exclusion import excludes
from sureplace.motion.going import farther
from sureplace.numbers.boxes import cut, inside

MOST_CUTS = 240


class Held:
    """A known thing that was judged: at the moment, the receiver was in one of the boxes of the cover."""

    def __init__(self, moment, cover, used):
        self.moment = moment
        self.cover = cover
        self.used = used

    def __eq__(self, other):
        return (isinstance(other, Held) and self.moment == other.moment and self.cover == other.cover
                and self.used == other.used)


def beyond(setting, thing, moment, box):
    """Tell whether the box is farther from each box of the held thing than one can go."""
    ticks = abs(moment - thing.moment)
    for other in thing.cover:
        if not farther(setting, ticks, box, other):
            return False
    return True


def by_number(readings):
    """A dict of the readings by their numbers."""
    return {number: reading for number, reading in readings}


class Case:
    """By what trees of a moment are judged."""

    def __init__(self, setting, table, held, keep, moment):
        self.setting = setting
        self.table = table
        self.held = held
        self.keep = keep
        self.moment = moment

    def by_reading(self, number, box):
        """The source of the reading, if it excludes the box."""
        reading = self.table.get(number)
        if reading is None or not excludes(self.setting, reading, self.moment, box):
            return None
        return (reading.source,)

    def by_known(self, place, box):
        """The sources of the known thing, if the box is farther from its cover than one can go."""
        if not 0 <= place < len(self.held):
            return None
        thing = self.held[place]
        return thing.used if beyond(self.setting, thing, self.moment, box) else None

    def by_kept(self, place, box):
        """No sources, if the box is inside the kept box."""
        if 0 <= place < len(self.keep) and inside(box, self.keep[place]):
            return ()
        return None

    def sources(self, step, box):
        """The sources on which a step that is no cut rests; None if it is not true of the box."""
        word, place = step
        if word == "reading":
            return self.by_reading(place, box)
        if word == "known":
            return self.by_known(place, box)
        if word == "kept":
            return self.by_kept(place, box)
        return None

    def judged(self, tree, box):
        """The sources on which the tree rests, each once; None if it does not show the box."""
        # The boxes whose steps are still to come, the next one last, with the cuts around them.
        waiting = [(box, 0)]
        found = {}
        for step in tree:
            if not waiting:
                return None
            here, cuts = waiting.pop()
            if step[0] == "cut":
                parts = cut(here, step[1], step[2])
                if parts is None or cuts == MOST_CUTS:
                    return None
                waiting.append((parts[1], cuts + 1))
                waiting.append((parts[0], cuts + 1))
            else:
                sources = self.sources(step, here)
                if sources is None:
                    return None
                for source in sources:
                    found[source] = True
        return None if waiting else tuple(found)


def judge_tree(setting, readings, held, keep, moment, tree, box):
    """The sources on which the tree rests; None if it does not show that one was in kept boxes alone."""
    case = Case(setting, by_number(readings), held, keep, moment)
    return case.judged(tree, box)
