"""Papers: that the receiver was not in a box, although some sources lie."""

from sureplace.given.questions import asked
from sureplace.judge.blame import blames_right
from sureplace.judge.trees import Case, Held, by_number
from sureplace.motion.going import widened


class Known:
    """At the moment, the receiver was in one of the boxes of the cover, as the tree shows."""

    def __init__(self, moment, cover, tree):
        self.moment = moment
        self.cover = cover
        self.tree = tree

    def __eq__(self, other):
        return (isinstance(other, Known) and self.moment == other.moment and self.cover == other.cover
                and self.tree == other.tree)


class Paper:
    """Known things, trees that rest on them, and steps of blame over the trees."""

    def __init__(self, known, trees, steps):
        self.known = known
        self.trees = trees
        self.steps = steps

    def __eq__(self, other):
        return (isinstance(other, Paper) and self.known == other.known and self.trees == other.trees
                and self.steps == other.steps)


def root_at(setting, question, moment):
    """The box in which the receiver was at the moment, as it was in the root at the question's one."""
    return widened(setting, abs(moment - question.moment), question.root)


class Bench:
    """Judges known things, and papers that rest on them, by the same readings."""

    def __init__(self, setting, question, readings):
        self.setting = setting
        self.question = question
        self.table = by_number(asked(question, readings))
        self.held = []

    def hears(self, thing):
        """Tell whether the thing is right after those that were heard; if so, it is held."""
        case = Case(self.setting, self.table, self.held, thing.cover, thing.moment)
        used = case.judged(thing.tree, root_at(self.setting, self.question, thing.moment))
        if used is None:
            return False
        self.held.append(Held(thing.moment, thing.cover, used))
        return True

    def hears_all(self, known):
        """Tell whether all things are right, each with those before it."""
        for thing in known:
            if not self.hears(thing):
                return False
        return True

    def sources_of(self, trees, steps, box):
        """For each tree that a step names the sources on which it rests; None for a tree that shows nothing."""
        case = Case(self.setting, self.table, self.held, (), self.question.moment)
        # What no step names plays no part, and there can be much of it.
        named = {tree: True for tree, following in steps}
        return [case.judged(tree, box) if place in named else None for place, tree in enumerate(trees)]

    def accepts(self, trees, steps, box, honest=()):
        """Tell whether a paper with these trees and steps is accepted, its things having been heard."""
        used = self.sources_of(trees, steps, box)
        return blames_right(used, steps, honest=honest, liars=self.question.liars)


def judge_known(setting, question, readings, known):
    """The known things as they are held; None if one of them is not right."""
    bench = Bench(setting, question, readings)
    return bench.held if bench.hears_all(known) else None


def used_by(setting, question, readings, held, trees, box):
    """For each tree the sources on which it rests; None if it does not show that one was not in the box."""
    case = Case(setting, by_number(asked(question, readings)), held, (), question.moment)
    return [case.judged(tree, box) for tree in trees]


def judge_paper(setting, question, readings, paper, box, *, honest=()):
    """Tell whether the paper shows that the receiver was not in the box."""
    bench = Bench(setting, question, readings)
    return bench.hears_all(paper.known) and bench.accepts(paper.trees, paper.steps, box, honest)
