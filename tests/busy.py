"""Receivers of worlds with liars, and calls of all kinds for them."""

from sureplace.judge.papers import Known
from sureplace.search.plans import Plan
from sureplace.search.searching import search
from sureplace.standing.receiver import Receiver
from tests.helpers import a_question, a_setting, dice
from tests.worlds import SOURCES, a_true_reading, a_world, some_liars

TICKS = 9


def moved(tree, by):
    """The tree, with places of known things that are greater by a number."""
    return tuple((step[0], step[1] + by) if step[0] == "known" else step for step in tree)


class Busy:
    """A receiver with a world; it thinks of calls, and makes them."""

    def __init__(self, seed):
        self.chance = dice(seed)
        self.setting = a_setting(2 if seed % 4 else 3, speed=self.chance.choice((0, 1, 5)),
                                 drift=self.chance.randint(0, 1), per=1)
        self.world = a_world(self.chance, self.setting, TICKS)
        self.liars = some_liars(self.chance, 2)
        self.receiver = Receiver(self.setting)
        self.here, self.waiting = {}, []
        for _ in range(6):
            self.receiver.put(self.a_reading())
        self.do(self.ask())

    def a_reading(self):
        return a_true_reading(self.chance, self.world, self.liars)

    def a_question(self):
        """A question with the world in its root, and where the world is."""
        moment = self.chance.randrange(TICKS)
        place, offset = self.world[moment]
        root = tuple((n - self.chance.randint(0, 20), n + self.chance.randint(0, 20)) for n in place)
        root += ((offset - self.chance.randint(0, 3), offset + self.chance.randint(0, 3)),)
        liars = self.chance.randint(len(self.liars), 2)
        question = a_question(moment, root, liars=liars, share=self.chance.randint(3, 9), earliest=0,
                              latest=self.chance.randint(5, 9))
        return question, place + (offset,)

    def ask(self):
        question, here = self.a_question()
        self.here[self.receiver.next_number] = here
        return "ask", question

    def a_plan(self, question):
        moments = tuple(sorted(self.chance.sample(range(0, question.latest + 1), 2)))
        return Plan(moments, grain=self.chance.randint(4, 9), most=self.chance.randint(1, 6),
                    without=((), tuple(self.chance.sample(SOURCES, 1))))

    def look(self):
        """Searches, and keeps offers of what was found."""
        number = self.chance.choice(self.receiver.questions)
        question = self.receiver.question(number)
        found = search(self.setting, question, self.receiver.there(), self.a_plan(question),
                       self.chance.choice((5, 30, 80)))
        # What is known here has other places there.
        by = len(self.receiver.known(number))
        self.waiting += [("learn", number, Known(thing.moment, thing.cover, moved(thing.tree, by)))
                         for thing in found.known]
        for told in self.chance.sample(found.told, min(len(found.told), 9)):
            if told.verdict == "out":
                trees = tuple(moved(tree, by) for tree in told.trees)
                self.waiting.append(("refute", number, told.cell, trees, told.steps))
            elif told.verdict == "in":
                self.waiting.append(("reach", number, told.cell, told.witness))

    def write(self):
        numbers = [number for number, _ in self.receiver.there()] + [0]
        what = self.chance.choice(("put", "put", "correct", "withdraw"))
        if what == "put" or len(numbers) < 4:
            return "put", self.a_reading()
        if what == "correct":
            return what, self.chance.choice(numbers), self.a_reading()
        return what, self.chance.choice(numbers)

    def of_the_ledger(self):
        what = self.chance.choice(("pin", "pin", "unpin", "raise_floor"))
        if what == "unpin" and self.receiver.ledger.pins:
            return what, self.chance.choice(self.receiver.ledger.pins)
        if what == "raise_floor":
            return what, self.chance.randint(0, self.receiver.ledger.now)
        return ("pin",)

    def call(self):
        """A call that fits what there is: the name of a method and its arguments."""
        while True:
            what = self.chance.random()
            if what < 0.06 and len(self.receiver.questions) < 3:
                return self.ask()
            if what < 0.08 and len(self.receiver.questions) > 1:
                return "end", self.chance.choice(self.receiver.questions)
            if what < 0.16:
                return self.of_the_ledger()
            if what < 0.3:
                return self.write()
            if not self.waiting:
                self.look()
            elif self.waiting[0][1] in self.receiver.questions:
                return self.waiting.pop(0)
            else:
                self.waiting.pop(0)

    def do(self, call):
        return getattr(self.receiver, call[0])(*call[1:])

    def go_on(self, many):
        for _ in range(many):
            self.do(self.call())
        return self


def state_of(receiver):
    """All that a receiver answers."""
    ledger = receiver.ledger
    told = [receiver.setting, ledger.now, ledger.floor, ledger.pins, ledger.kept, ledger.entries(),
            receiver.there(), receiver.questions, receiver.next_number]
    for moment in range(ledger.now + 1):
        told.append(ledger.readings(moment) if ledger.keeps(moment) else None)
    for number in receiver.questions:
        verdicts = receiver.verdicts(number)
        told += [receiver.question(number), receiver.known(number), verdicts]
        told += [(receiver.paper(number, address), receiver.witness(number, address)) for address, _, _ in verdicts]
    return told
