"""A standing question, with what is known for it and what is shown of its cells."""

from sureplace.judge.papers import Bench, Known, Paper
from sureplace.numbers.boxes import cell_at, is_small
from sureplace.standing.bounded import reasons_bounded, thing_bounded, witness_bounded
from sureplace.standing.division import Cell, Division, is_address
from sureplace.witness.judging import Hearing, judge_witness

MOST_THINGS = 128


def _plain_thing(question):
    """What is known without any reading: at the question's moment, the receiver was in the root."""
    return Known(question.moment, (question.root,), (("kept", 0),))


class Watch:
    """A standing question: nothing that is offered for it is trusted."""

    def __init__(self, question):
        self.question = question
        self._things = []
        self._division = Division([("", Cell("open"))])
        # The bench that heard the things last, and by what it judges.
        self._bench = None
        self._given = None

    def things(self):
        """The known things."""
        return list(self._things)

    def _box(self, address):
        """The box of the cell at the address; None if the root has no such cell."""
        return cell_at(self.question.root, address) if is_address(address) else None

    def _bench_for(self, setting, readings):
        """A bench that heard all known things; None if they are not right for the readings."""
        # Many offers come between two writes, and the things need not be judged again for each.
        if self._given != (setting, readings):
            bench = Bench(setting, self.question, readings)
            if not bench.hears_all(self._things):
                return None
            self._bench = bench
            self._given = (setting, list(readings))
        return self._bench

    def learn(self, setting, readings, thing):
        """Take the known thing if it is right; return its place, or None."""
        if len(self._things) >= MOST_THINGS or not thing_bounded(setting, thing):
            return None
        bench = self._bench_for(setting, readings)
        if bench is None or not bench.hears(thing):
            return None
        self._things.append(thing)
        return len(self._things) - 1

    def refute(self, setting, readings, address, trees, steps):
        """Tell whether the trees and steps show, with what is known, that the cell is out; if so, it is."""
        box = self._box(address)
        if box is None or not reasons_bounded(trees, steps):
            return False
        around = self._division.around(address)
        if around is not None:
            verdict = self._division.uncut[around].verdict
            if verdict == "out" or (verdict == "in" and around != address):
                return False
        bench = self._bench_for(setting, readings)
        if bench is None or not bench.accepts(trees, steps, box):
            return False
        self._division.settle(address, Cell("out", box, trees=tuple(trees), steps=tuple(steps)))
        return True

    def reach(self, setting, readings, address, witness):
        """Tell whether the witness shows that the cell is in; if so, it is."""
        box = self._box(address)
        if box is None or not witness_bounded(setting, witness):
            return False
        around = self._division.around(address)
        if around is None or self._division.uncut[around].verdict != "open":
            return False
        if not is_small(box, self.question.share):
            return False
        if not judge_witness(setting, self.question, readings, witness, box):
            return False
        self._division.settle(address, Cell("in", box, witness=witness))
        return True

    def _hear_again(self, setting, readings):
        """Judge the known things again, and put the plain thing in the place of each that is not right."""
        bench = Bench(setting, self.question, readings)
        things = []
        for thing in self._things:
            if bench.hears(thing):
                things.append(thing)
            else:
                plain = _plain_thing(self.question)
                bench.hears(plain)
                things.append(plain)
        self._things = things
        self._bench = bench
        self._given = (setting, list(readings))

    def _with(self, verdict):
        """The cells with the verdict, as (address, cell)."""
        return [(address, cell) for address, cell in self._division.uncut.items() if cell.verdict == verdict]

    def _not_in(self, setting, readings):
        """The addresses of cells that are in and are not shown to be so any more."""
        cells_in = self._with("in")
        # Most questions have none, and a hearing looks at all readings.
        if not cells_in:
            return []
        hearing = Hearing(setting, self.question, readings)
        return [address for address, cell in cells_in if not hearing.accepts(cell.witness, cell.box)]

    def turn(self, setting, readings):
        """Judge everything again; return the addresses of the cells that fell."""
        self._hear_again(setting, readings)
        not_out = [address for address, cell in self._with("out")
                   if not self._bench.accepts(cell.trees, cell.steps, cell.box)]
        fallen = sorted(not_out + self._not_in(setting, readings))
        for address in fallen:
            self._division.settle(address, Cell("open"))
        return fallen

    def cells(self):
        """Go through the cells that are not cut, as (address, verdict)."""
        yield from sorted([(address, cell.verdict) for address, cell in self._division.uncut.items()])

    def _cell(self, address, verdict):
        """The cell with this address and verdict; None if there is no such cell."""
        cell = self._division.uncut.get(address)
        return cell if cell is not None and cell.verdict == verdict else None

    def paper(self, address):
        """The paper of a cell that is out; None if there is no such cell."""
        cell = self._cell(address, "out")
        return None if cell is None else Paper(tuple(self._things), cell.trees, cell.steps)

    def witness(self, address):
        """The witness of a cell that is in; None if there is no such cell."""
        cell = self._cell(address, "in")
        return None if cell is None else cell.witness


def watching(question, things, uncut):
    """A watch with these known things and cells, pairs of an address and a cell, which nobody has judged yet."""
    watch = Watch(question)
    watch._things.extend(things)
    watch._division = Division(uncut)
    return watch
