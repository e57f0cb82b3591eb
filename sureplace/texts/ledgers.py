"""The words of ledgers."""

from sureplace.errors import InvalidText
from sureplace.ledger.ledger import restored, was_kept
from sureplace.numbers.bounds import VAST
from sureplace.standing.receiver import has_room
from sureplace.texts.reading import read_reading
from sureplace.texts.words import GREATEST_COUNT
from sureplace.texts.writing import list_words, number_words, reading_words


def _version_words(version):
    """The words of a version."""
    born, died, reading = version
    return [str(born), "-" if died is None else str(died)] + reading_words(reading)


def ledger_words(ledger):
    """The words of a ledger."""
    pins = list_words([[str(moment)] for moment in ledger.pins])
    entries = [[str(number)] + list_words([_version_words(version) for version in versions])
               for number, versions in ledger.entries()]
    return number_words((ledger.now, ledger.floor)) + pins + list_words(entries)


def _read_died(words, least, now, is_last):
    """When a version died, or None; only the last one of an entry need not have died."""
    if is_last and words.peek() == "-":
        words.word(("-",))
        return None
    return words.number(least, now)


def _read_entry(words, setting, least, now):
    """An entry whose number is at least so great."""
    number = words.number(least, now)
    versions = []
    soonest = number
    many = words.number(1, GREATEST_COUNT)
    for later in reversed(range(many)):
        born = words.number(soonest, now)
        died = _read_died(words, born + 1, now, later == 0)
        versions.append((born, died, read_reading(words, setting)))
        soonest = died
    return number, tuple(versions)


def read_ledger(words, setting):
    """A ledger of readings that fit the setting."""
    now = words.number(0, VAST)
    floor = words.number(0, now)
    pins = [words.number(0, now) for _ in range(words.length())]
    entries = []
    least = 1
    for _ in range(words.length()):
        entry = _read_entry(words, setting, least, now)
        entries.append(entry)
        least = entry[0] + 1
    ledger = restored(now, floor, pins, entries)
    there = [reading for number, reading in ledger.readings(now)]
    kept = all([was_kept(floor, pins, version) for number, versions in entries for version in versions])
    if not kept or not has_room(there):
        raise InvalidText(words.place)
    return ledger
