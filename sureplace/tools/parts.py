"""Papers for a part of a box, and for two parts together."""

from sureplace.judge.papers import Paper, judge_paper
from sureplace.liars.makers import make_paper
from sureplace.numbers.boxes import cut
from sureplace.tools.naming import thing_with_places, tree_with_places


def _is_tree(tree, axes):
    """Tell whether the steps are exactly one tree, whose cuts are of the first so many axes."""
    missing = 1
    for step in tree:
        if missing == 0:
            return False
        if step[0] == "cut":
            if not 0 <= step[1] < axes:
                return False
            missing += 1
        else:
            missing -= 1
    return missing == 0


def _beside(axis, place, part):
    """What of the part lies on the first side of a cut, and on the second one: None if the part is not cut there."""
    if part is None:
        return None, None
    low, high = part[axis]
    if high <= place:
        return part, None
    return (None, part) if low >= place else cut(part, axis, place)


def pruned(tree, box, part):
    """The tree of the box, pruned to a part of it."""
    if not _is_tree(tree, len(box)):
        return tree
    # The parts whose steps are still to come, the next one last; None where the steps fall away.
    waiting = [part]
    kept = []
    for step in tree:
        here = waiting.pop()
        if step[0] == "cut":
            first, second = _beside(step[1], step[2], here)
            waiting.append(second)
            waiting.append(first)
            stays = first is not None and second is not None
        else:
            stays = here is not None
        if stays:
            kept.append(step)
    return tuple(kept)


def _paper_of(made):
    """What was made, if it is a paper; otherwise None."""
    return made if isinstance(made, Paper) else None


def restricted(setting, question, readings, paper, box, part, *, honest=()):
    """A paper for a part of the box; None if the paper is not accepted for the box, or if none is made."""
    if not judge_paper(setting, question, readings, paper, box, honest=honest):
        return None
    trees = tuple([pruned(tree, box, part) for tree in paper.trees])
    return _paper_of(make_paper(setting, question, readings, paper.known, trees, part, honest=honest))


def joined(setting, question, readings, first, second, box, axis, place, *, honest=()):
    """A paper for the box, of papers for its two parts; None if it cannot be cut there, or if none is made."""
    if cut(box, axis, place) is None:
        return None
    before = len(first.known)
    known = first.known + tuple([thing_with_places(thing, lambda old: old + before) for thing in second.known])
    others = [tree_with_places(tree, lambda old: old + before) for tree in second.trees]
    trees = tuple([(("cut", axis, place),) + tree + other for tree in first.trees for other in others])
    return _paper_of(make_paper(setting, question, readings, known, trees, box, honest=honest))


def remade(setting, question, readings, paper, box, *, honest=()):
    """A paper with new steps of blame; None if none is made."""
    return _paper_of(make_paper(setting, question, readings, paper.known, paper.trees, box, honest=honest))
