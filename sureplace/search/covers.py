"""Knowing: in which boxes the receiver was at some moments, as far as it can be told."""

from sureplace.given.questions import asked
from sureplace.judge.papers import Known, root_at
from sureplace.judge.trees import Held, beyond
from sureplace.numbers.boxes import halves, is_small, widest
from sureplace.search.sights import Sight

MOST_CUTS = 160
LOOKS = 8


class Row:
    """What was held without the sources with these names, before and after the question's moment."""

    def __init__(self, names, before, after):
        self.names = names
        self.before = before
        self.after = after

    def __eq__(self, other):
        return (isinstance(other, Row) and self.names == other.names and self.before == other.before
                and self.after == other.after)


class Knowing:
    """Makes known things, one after the other."""

    def __init__(self, setting, question, plan):
        self.setting = setting
        self.question = question
        self.plan = plan
        self.known = []
        self.held = []

    def left_out(self, sight, last, box):
        """Why the receiver was not in the box: a step and its sources; None if nothing tells so."""
        found = sight.first(box)
        if found is not None:
            number, reading = found
            return ("reading", number), (reading.source,)
        if last is not None and beyond(self.setting, self.held[last], sight.moment, box):
            return ("known", last), self.held[last].used
        return None

    def parts(self, box, cuts, kept, looks):
        """The halves of the box; None if it is to be kept."""
        most = self.plan.most
        if is_small(box, self.plan.grain) or kept >= most or cuts >= MOST_CUTS or looks >= LOOKS * most:
            return None
        return halves(box)

    def make(self, sight, last):
        """Make the known thing of a moment; last is the place of the one before it in its row, or None."""
        # The boxes whose steps are still to come, the next one last, with the cuts around them.
        waiting = [(root_at(self.setting, self.question, sight.moment), 0)]
        steps, cover, used = [], [], {}
        while waiting:
            box, cuts = waiting.pop()
            found = self.left_out(sight, last, box)
            parts = None if found is not None else self.parts(box, cuts, len(cover), len(steps))
            if found is not None:
                step, sources = found
                steps.append(step)
                for source in sources:
                    used[source] = True
            elif parts is None:
                steps.append(("kept", len(cover)))
                cover.append(box)
            else:
                axis = widest(box)
                steps.append(("cut", axis, parts[0][axis][1]))
                waiting.append((parts[1], cuts + 1))
                waiting.append((parts[0], cuts + 1))
        self.known.append(Known(sight.moment, tuple(cover), tuple(steps)))
        self.held.append(Held(sight.moment, tuple(cover), tuple(used)))

    def make_row(self, readings, moments):
        """Make the known things of a row, and return them as they are held, the last one first."""
        last = None
        made = []
        for moment in moments:
            self.make(Sight(self.setting, readings, moment), last)
            last = len(self.known) - 1
            made.insert(0, self.held[last])
        return made


def know(setting, question, readings, plan):
    """The known things that the plan asks for, the same as they are held, and a row for each tuple of names."""
    early = [moment for moment in plan.moments if moment <= question.moment]
    late = [moment for moment in reversed(plan.moments) if moment > question.moment]
    knowing = Knowing(setting, question, plan)
    rows = []
    for names in plan.without:
        trusted = [(number, reading) for number, reading in asked(question, readings)
                   if reading.source not in names]
        up_to = knowing.make_row(trusted, early)
        after = knowing.make_row(trusted, late)
        rows.append(Row(names, [thing for thing in up_to if thing.moment != question.moment], after))
    return knowing.known, knowing.held, rows
