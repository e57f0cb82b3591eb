"""Runs of scripts."""

from sureplace.errors import InvalidLine, InvalidPlan, InvalidText, NotPinned, UnknownMoment, UnknownQuestion
from sureplace.levels.levels import level_above, level_below
from sureplace.scripts.lines import read_beginning, read_deed
from sureplace.search.searching import search
from sureplace.standing.receiver import Receiver
from sureplace.texts.saved import load, save
from sureplace.texts.writing import number_words, reading_words


def _written_address(address):
    """The address as it is told."""
    return address if address else "root"


def _after_write(write):
    """What is told of a write."""
    if write is None:
        return ["none"]
    fell = [(question, ",".join([_written_address(address) for address in addresses]))
            for question, addresses in write.fallen]
    return [f"write {write.number}"] + [f"fell {question} {addresses}" for question, addresses in fell]


def _put(receiver, reading):
    return _after_write(receiver.put(reading))


def _correct(receiver, number, reading):
    return _after_write(receiver.correct(number, reading))


def _withdraw(receiver, number):
    return _after_write(receiver.withdraw(number))


def _pin(receiver):
    return [f"moment {receiver.pin()}"]


def _unpin(receiver, moment):
    receiver.unpin(moment)
    return ["done"]


def _floor(receiver, moment):
    return [f"floor {receiver.raise_floor(moment)}"]


def _readings(receiver, moment):
    there = receiver.ledger.readings(moment)
    return [" ".join(["reading", str(number)] + reading_words(reading)) for number, reading in there]


def _ask(receiver, question):
    return [f"question {receiver.ask(question)}"]


def _end(receiver, number):
    receiver.end(number)
    return ["done"]


def _offer(receiver, number, told):
    """Offer what was told of a cell; tell whether it was accepted."""
    if told.verdict == "out":
        return receiver.refute(number, told.cell, told.trees, told.steps)
    return receiver.reach(number, told.cell, told.witness)


def _search(receiver, number, steps, plan):
    found = search(receiver.setting, receiver.question(number), receiver.there(), plan, steps)
    many = len(receiver.known(number))
    learned = 0
    for thing in found.known[many:]:
        if receiver.learn(number, thing) is not None:
            learned += 1
    counts = {"out": 0, "in": 0, "stuck": 0}
    for told in found:
        if told.verdict == "stuck" or _offer(receiver, number, told):
            counts[told.verdict] += 1
    numbers = [learned] + [counts[verdict] for verdict in ("out", "in", "stuck")] + [len(found.left)]
    return [" ".join(["offered"] + number_words(numbers))]


def _told(receiver, number):
    return [f"cell {_written_address(address)} {verdict}" for address, _, verdict in receiver.verdicts(number)]


def _level(receiver, number, place):
    verdicts = receiver.verdicts(number)
    boxes = [box for address, box, verdict in verdicts if verdict != "out"]
    witnesses = [receiver.witness(number, address) for address, box, verdict in verdicts if verdict == "in"]
    moment = receiver.question(number).moment
    return [f"level {level_above(place, boxes)} {level_below(place, moment, witnesses)}"]


def _save(receiver):
    return [f"text {save(receiver)}"]


# For each first word of a deed what it does with the receiver and the other parts; each returns the results.
ACTIONS = {
    "put": _put, "correct": _correct, "withdraw": _withdraw, "pin": _pin, "unpin": _unpin, "floor": _floor,
    "readings": _readings, "ask": _ask, "end": _end, "search": _search, "told": _told, "level": _level, "save": _save,
}


class Run:
    """A receiver that does deeds."""

    def __init__(self, setting):
        self.receiver = Receiver(setting)

    @classmethod
    def resumed(cls, text):
        """A run that goes on with the receiver of the text."""
        receiver = load(text)
        made = cls(receiver.setting)
        made.receiver = receiver
        return made

    def do(self, deed):
        """Do the deed; return its results."""
        word, *parts = deed
        action = ACTIONS[word]
        try:
            return action(self.receiver, *parts)
        except UnknownQuestion:
            return ["refused UnknownQuestion"]
        except UnknownMoment:
            return ["refused UnknownMoment"]
        except NotPinned:
            return ["refused NotPinned"]
        except InvalidPlan:
            return ["refused InvalidPlan"]


def _setting_of(line):
    """The setting that the first line tells."""
    try:
        return read_beginning(line)
    except InvalidText as error:
        raise InvalidLine(0, error.place) from None


def _deed_of(number, line, setting):
    """The deed that a later line tells."""
    try:
        return read_deed(line, setting)
    except InvalidText as error:
        raise InvalidLine(number, error.place) from None


def run(lines):
    """The results of the script's deeds, one after the other."""
    if len(lines) == 0:
        return []
    setting = _setting_of(lines[0])
    running = Run(setting)
    results = []
    for number, line in enumerate(lines[1:], start=1):
        results.extend(running.do(_deed_of(number, line, setting)))
    return results
