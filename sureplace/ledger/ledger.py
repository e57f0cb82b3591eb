"""The ledger: readings, and what they said at earlier times."""

from sureplace.errors import NotPinned, UnknownMoment


def _there_at(versions, moment):
    """The reading of the version that was there at the moment; None if there was none."""
    for born, died, reading in versions:
        if born <= moment and (died is None or moment < died):
            return reading
    return None


def was_kept(floor, pins, version):
    """Tell whether the version was there at a moment from the floor on, or at a pinned one."""
    born, died, _ = version
    return died is None or died > floor or any([born <= moment < died for moment in pins])


class Ledger:
    """Writes are numbered 1, 2, 3 and so on; the readings at a kept moment never change."""

    def __init__(self):
        self.now = 0
        self.floor = 0
        self._pinned = []
        # For each number its versions: tuples (born, died, reading).
        self._versions = {}
        # The readings that are there now, by their numbers.
        self._there = {}

    @property
    def pins(self):
        """The pinned moments, in the order in which they were pinned."""
        return list(self._pinned)

    @property
    def kept(self):
        """How many versions are kept."""
        return sum([len(versions) for versions in self._versions.values()])

    def _end(self, number):
        """Let the version that is there now die with this write."""
        versions = self._versions[number]
        born, _, reading = versions[-1]
        versions[-1] = (born, self.now, reading)

    def _drop(self):
        """Drop the versions that were there at no kept moment."""
        for number in list(self._versions):
            versions = [version for version in self._versions[number] if was_kept(self.floor, self._pinned, version)]
            if versions:
                self._versions[number] = versions
            else:
                del self._versions[number]

    def put(self, reading):
        """Add a reading; the number of the write is its number."""
        self.now += 1
        self._versions[self.now] = [(self.now, None, reading)]
        self._there[self.now] = reading
        return self.now

    def correct(self, number, reading):
        """Replace the reading with the number; None, and no write, if it is not there now."""
        if number not in self._there:
            return None
        self.now += 1
        self._end(number)
        self._versions[number].append((self.now, None, reading))
        self._there[number] = reading
        return self.now

    def withdraw(self, number):
        """Remove the reading with the number; None, and no write, if it is not there now."""
        if number not in self._there:
            return None
        self.now += 1
        self._end(number)
        del self._there[number]
        return self.now

    def pin(self):
        """Pin now, and return it."""
        self._pinned.append(self.now)
        return self.now

    def unpin(self, moment):
        """Give up the first pin of the moment."""
        if moment not in self._pinned:
            raise NotPinned(moment)
        self._pinned.remove(moment)
        self._drop()

    def raise_floor(self, moment):
        """Keep no moments before this one but the pinned ones; return the floor, which never decreases."""
        self.floor = max(self.floor, min(moment, self.now))
        self._drop()
        return self.floor

    def keeps(self, moment):
        """Tell whether the moment is kept."""
        return self.floor <= moment <= self.now or moment in self._pinned

    def readings(self, moment):
        """The readings that were there at the moment, as pairs of a number and a reading."""
        if not self.keeps(moment):
            raise UnknownMoment(moment)
        if moment == self.now:
            return list(self._there.items())
        found = [(number, _there_at(versions, moment)) for number, versions in self._versions.items()]
        return [(number, reading) for number, reading in found if reading is not None]

    def entries(self):
        """The entries: tuples (number, versions), with versions as tuples (born, died, reading)."""
        return [(number, tuple(versions)) for number, versions in self._versions.items()]


def restored(now, floor, pins, entries):
    """A ledger with these values."""
    ledger = Ledger()
    ledger.now = now
    ledger.floor = floor
    for moment in pins:
        ledger._pinned.append(moment)
    for number, versions in entries:
        ledger._versions[number] = list(versions)
        if versions[-1][1] is None:
            ledger._there[number] = versions[-1][2]
    return ledger
