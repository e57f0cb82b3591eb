"""Makers of papers, and of what is to be suspected."""

from sureplace.judge.papers import Paper, judge_known, used_by
from sureplace.liars.meetings import fewest, least_sets, make_steps, surely


class Suspicion:
    """On whom trees rest, the least sets of liars, how few there are, and who surely is one."""

    def __init__(self, used, sets):
        self.used = used
        self.sets = sets
        self.fewest = fewest(sets)
        self.surely = surely(sets)

    def __eq__(self, other):
        return (isinstance(other, Suspicion) and self.used == other.used and self.sets == other.sets
                and self.fewest == other.fewest and self.surely == other.surely)


def make_paper(setting, question, readings, known, trees, box, *, honest=()):
    """A paper for the box, or names that can be all the liars; None if the known things are not right."""
    held = judge_known(setting, question, readings, known)
    if held is None:
        return None
    used = used_by(setting, question, readings, held, trees, box)
    word, made = make_steps(used, honest=honest, liars=question.liars)
    return Paper(tuple(known), tuple(trees), made) if word == "steps" else made


def suspicion(setting, question, readings, known, trees, *, honest=()):
    """What the trees tell of liars, if the receiver is in the root; None if the known things are not right."""
    held = judge_known(setting, question, readings, known)
    if held is None:
        return None
    used = used_by(setting, question, readings, held, trees, question.root)
    return Suspicion(used, least_sets(used, honest=honest, liars=question.liars))
