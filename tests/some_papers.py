"""Papers that are accepted, found by searches in worlds with liars."""

from sureplace.judge.papers import Paper
from sureplace.search.plans import Plan
from sureplace.search.searching import search
from tests.helpers import dice
from tests.worlds import SOURCES, a_case


class Found:
    """What a search found: the case, and the papers of the cells that are out, as (box, paper)."""

    def __init__(self, seed):
        self.chance = dice(seed)
        self.setting, self.question, self.readings, self.here = a_case(self.chance, dims=2 if seed % 4 else 3,
                                                                       share=self.chance.randint(3, 8))
        self.given = (self.setting, self.question, self.readings)
        question = self.question
        moments = tuple(sorted(self.chance.sample(range(question.earliest, question.latest + 1), 2)))
        plan = Plan(moments, grain=self.chance.randint(4, 9), most=self.chance.randint(1, 6),
                    without=((), tuple(self.chance.sample(SOURCES, 1))))
        self.found = search(*self.given, plan, self.chance.choice((30, 80)))
        self.papers = [(told.box, Paper(self.found.known, told.trees, told.steps)) for told in self.found
                       if told.verdict == "out"]

    def some(self, many):
        """Some of the papers, with their boxes."""
        return self.chance.sample(self.papers, min(many, len(self.papers)))


def a_part(chance, box):
    """Any part of the box; now and then the box itself, or a single place of it."""
    part = []
    for low, high in box:
        one, two = sorted((chance.randint(low, high), chance.randint(low, high)))
        part.append(chance.choice(((one, two), (one, two), (low, high), (one, one))))
    return tuple(part)


def any_tree(chance, axes, cuts):
    """Any tree with at most so many cuts; most of its cuts do not fit its boxes."""
    if cuts == 0 or chance.random() < 0.2:
        return ((chance.choice(("reading", "known", "kept")), chance.randint(-1, 5)),)
    first = chance.randint(0, cuts - 1)
    return ((("cut", chance.randrange(axes), chance.randint(-9, 9)),)
            + any_tree(chance, axes, first) + any_tree(chance, axes, cuts - 1 - first))


def finer(chance, tree, box, cuts):
    """A tree that shows what the tree of one step shows, with so many cuts of the box."""
    axis = chance.randrange(len(box))
    low, high = box[axis]
    if cuts == 0 or high - low < 2:
        return tree
    place = chance.randint(low + 1, high - 1)
    first = box[:axis] + ((low, place),) + box[axis + 1:]
    second = box[:axis] + ((place, high),) + box[axis + 1:]
    many = chance.randint(0, cuts - 1)
    return (("cut", axis, place),) + finer(chance, tree, first, many) + finer(chance, tree, second, cuts - 1 - many)


def with_kinds(readings, tree):
    """The kinds of the readings that the tree names."""
    table = dict(readings)
    return {table[step[1]].kind[0] for step in tree if step[0] == "reading" and step[1] in table}
