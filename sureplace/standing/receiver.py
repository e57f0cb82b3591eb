"""A receiver: a ledger of readings, and questions that stand while readings come and go."""

from sureplace.errors import InvalidAddress, InvalidQuestion, InvalidReading, UnknownQuestion
from sureplace.given.questions import question_fits
from sureplace.given.readings import reading_fits
from sureplace.ledger.ledger import Ledger
from sureplace.numbers.boxes import cell_at
from sureplace.standing.division import is_address
from sureplace.standing.watch import Watch

MOST_READINGS = 1000
MOST_SOURCES = 32
LONGEST_ADDRESS = 240


class Write:
    """A write: its number, and for each question of which cells fell its number and their addresses."""

    def __init__(self, number, fallen):
        self.number = number
        self.fallen = fallen

    def __eq__(self, other):
        return isinstance(other, Write) and self.number == other.number and self.fallen == other.fallen


def has_room(readings):
    """Tell whether there are not too many readings, and not of too many sources."""
    return len(readings) <= MOST_READINGS and len(set([reading.source for reading in readings])) <= MOST_SOURCES


def _check_address(address):
    """Raise InvalidAddress if the text is not an address."""
    if len(address) > LONGEST_ADDRESS or not is_address(address):
        raise InvalidAddress("an address has at most 240 signs, each 0 or 1")


class Receiver:
    """Keeps readings and standing questions, and judges every offer."""

    def __init__(self, setting):
        self.setting = setting
        self.ledger = Ledger()
        self._watches = {}
        self._following = 1

    @property
    def questions(self):
        """The numbers of the standing questions."""
        return list(self._watches)

    @property
    def next_number(self):
        """The number that the next question gets."""
        return self._following

    def there(self):
        """The readings that are there now, as pairs of a number and a reading."""
        return self.ledger.readings(self.ledger.now)

    def _check_reading(self, reading):
        """Raise InvalidReading if the reading does not fit."""
        if not reading_fits(self.setting, reading):
            raise InvalidReading("the reading does not fit the setting")

    def _written(self, number):
        """Judge all questions again after the write with the number."""
        readings = self.there()
        fallen = []
        for question, watch in self._watches.items():
            addresses = watch.turn(self.setting, readings)
            if addresses:
                fallen.append((question, addresses))
        return Write(number, fallen)

    def put(self, reading):
        """Add a reading; None if there is no room for it."""
        self._check_reading(reading)
        others = [other for number, other in self.there()]
        if not has_room(others + [reading]):
            return None
        return self._written(self.ledger.put(reading))

    def correct(self, number, reading):
        """Replace the reading with the number; None if it is not there now, or if there is no room."""
        self._check_reading(reading)
        others = [other for place, other in self.there() if place != number]
        if not has_room(others + [reading]):
            return None
        write = self.ledger.correct(number, reading)
        return None if write is None else self._written(write)

    def withdraw(self, number):
        """Remove the reading with the number; None if it is not there now."""
        write = self.ledger.withdraw(number)
        return None if write is None else self._written(write)

    def pin(self):
        """Pin now, and return it."""
        return self.ledger.pin()

    def unpin(self, moment):
        """Give up the first pin of the moment."""
        self.ledger.unpin(moment)

    def raise_floor(self, moment):
        """Keep no moments before this one but the pinned ones; return the floor."""
        return self.ledger.raise_floor(moment)

    def ask(self, question):
        """Let the question stand; return its number."""
        if not question_fits(self.setting, question):
            raise InvalidQuestion("the question does not fit the setting")
        number = self._following
        self._watches[number] = Watch(question)
        self._following += 1
        return number

    def end(self, number):
        """End the question."""
        self.watch(number)
        del self._watches[number]

    def watch(self, number):
        """The standing question with the number."""
        watch = self._watches.get(number)
        if watch is None:
            raise UnknownQuestion(number)
        return watch

    def _watch_at(self, number, address):
        """The standing question with the number, the address being one."""
        watch = self.watch(number)
        _check_address(address)
        return watch

    def learn(self, number, thing):
        """Offer a known thing; return its place, or None."""
        watch = self.watch(number)
        return watch.learn(self.setting, self.there(), thing)

    def refute(self, number, address, trees, steps):
        """Offer trees and steps of blame for a cell; tell whether they are accepted."""
        watch = self._watch_at(number, address)
        return watch.refute(self.setting, self.there(), address, trees, steps)

    def reach(self, number, address, witness):
        """Offer a witness for a cell; tell whether it is accepted."""
        watch = self._watch_at(number, address)
        return watch.reach(self.setting, self.there(), address, witness)

    def question(self, number):
        """The question with the number."""
        watch = self.watch(number)
        return watch.question

    def known(self, number):
        """What is known for the question."""
        watch = self.watch(number)
        return watch.things()

    def verdicts(self, number):
        """The cells of the question that are not cut, as (address, box, verdict)."""
        watch = self.watch(number)
        root = watch.question.root
        return [(address, cell_at(root, address), verdict) for address, verdict in watch.cells()]

    def paper(self, number, address):
        """The paper of a cell that is out; None if there is no such cell."""
        watch = self._watch_at(number, address)
        return watch.paper(address)

    def witness(self, number, address):
        """The witness of a cell that is in; None if there is no such cell."""
        watch = self._watch_at(number, address)
        return watch.witness(address)


def revived(setting, ledger, following, watches):
    """A receiver with this ledger and these watches, pairs of a number and a watch; all of them are judged again."""
    receiver = Receiver(setting)
    receiver.ledger = ledger
    receiver._following = following
    readings = receiver.there()
    for number, watch in watches:
        watch.turn(setting, readings)
        receiver._watches[number] = watch
    return receiver
