"""Searching: which cells the receiver was surely not in, and which ones it can have been in."""

from sureplace.errors import InvalidPlan
from sureplace.given.questions import asked
from sureplace.judge.trees import beyond
from sureplace.liars.meetings import make_steps
from sureplace.numbers.boxes import halves, is_small
from sureplace.search.covers import know
from sureplace.search.sights import Sight
from sureplace.search.trying import tried
from sureplace.witness.judging import Hearing


class Told:
    """What is told of a cell: it is "out", "in" or "stuck"."""

    def __init__(self, cell, box, verdict, *, trees=(), steps=(), witness=None, names=()):
        self.cell = cell
        self.box = box
        self.verdict = verdict
        self.trees = trees
        self.steps = steps
        self.witness = witness
        self.names = names

    def __eq__(self, other):
        return (isinstance(other, Told) and self.cell == other.cell and self.box == other.box
                and self.verdict == other.verdict and self.trees == other.trees and self.steps == other.steps
                and self.witness == other.witness and self.names == other.names)


class Found:
    """What a search knows, what it told, and which cells are left."""

    def __init__(self, known, told, left):
        self.known = known
        self.told = told
        self.left = left

    def __eq__(self, other):
        return (isinstance(other, Found) and self.known == other.known and self.told == other.told
                and self.left == other.left)

    def __iter__(self):
        return iter(self.told)


class Looking:
    """Looks at cells, by the readings that the question asks of and by what is held."""

    def __init__(self, setting, question, readings, held, rows):
        self.setting = setting
        self.question = question
        self.held = held
        self.rows = rows
        self.sight = Sight(setting, readings, question.moment)
        self.hearing = Hearing(setting, question, readings)
        self.names = list({reading.source: True for number, reading in readings})

    def reasons(self, box):
        """The trees of the box, and for each of them the sources on which it rests."""
        found = [(("reading", number), (reading.source,)) for number, reading in self.sight.every(box)]
        found.extend([(("known", place), thing.used) for place, thing in enumerate(self.held)
                      if beyond(self.setting, thing, self.question.moment, box)])
        return tuple([(step,) for step, used in found]), [used for step, used in found]

    def told_at_last(self, address, box, names):
        """What is told of a cell that is not looked at any closer."""
        witness = tried(self.setting, self.question, self.rows, self.names, names, box)
        if self.hearing.accepts(witness, box):
            return Told(address, box, "in", witness=witness)
        return Told(address, box, "stuck", names=names)

    def look(self, address, box):
        """What is told of the cell, or None, and the cells that are left instead of it."""
        trees, used = self.reasons(box)
        word, made = make_steps(used, liars=self.question.liars)
        if word == "steps":
            return Told(address, box, "out", trees=trees, steps=made), []
        parts = None if is_small(box, self.question.share) else halves(box)
        if parts is None:
            return self.told_at_last(address, box, made), []
        return None, [(address + "0", parts[0]), (address + "1", parts[1])]


def search(setting, question, readings, plan, steps):
    """Make known things and look at so many cells."""
    if not all([question.earliest <= moment <= question.latest for moment in plan.moments]):
        raise InvalidPlan("a moment of the plan is out of the question's span")
    known, held, rows = know(setting, question, readings, plan)
    looking = Looking(setting, question, asked(question, readings), held, rows)
    # The first so many were looked at, the others are left.
    listed = [("", question.root)]
    many = 0
    found = []
    while many < len(listed) and many < steps:
        address, box = listed[many]
        told, parts = looking.look(address, box)
        if told is not None:
            found.append(told)
        listed.extend(parts)
        many += 1
    return Found(tuple(known), found, listed[many:])
