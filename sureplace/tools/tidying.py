"""What an accepted paper needs, and on whom it rests."""

from sureplace.judge.blame import blames_right
from sureplace.judge.papers import Bench, Paper, judge_paper
from sureplace.tools.naming import named, thing_with_places, tree_with_places


def _needed_steps(steps):
    """The numbers of the steps of blame to which a way leads, in ascending order."""
    needed = {0: True}
    # Each next step has a greater number than the step that leads to it.
    for number, (_, following) in enumerate(steps):
        if number in needed:
            for step in following:
                needed[step] = True
    return sorted(needed)


def _needed_known(known, trees):
    """The places of the known things that the trees need, in ascending order."""
    needed = {place: True for tree in trees for place in named(tree, "known")}
    # The tree of a known thing names only things before it.
    for place in reversed(range(len(known))):
        if place in needed:
            for other in named(known[place].tree, "known"):
                needed[other] = True
    return sorted(needed)


def _new_places(kept):
    """For each place that is kept the new one."""
    return {old: new for new, old in enumerate(kept)}


def _with_numbers(step, new_tree, new_step):
    """The step of blame, with new numbers of its tree and of its next steps."""
    tree, following = step
    return new_tree[tree], tuple([new_step[number] for number in following])


def tidy(setting, question, readings, paper, box, *, honest=()):
    """The paper without what it does not need; None if it is not accepted for the box."""
    if not judge_paper(setting, question, readings, paper, box, honest=honest):
        return None
    steps = _needed_steps(paper.steps)
    trees = sorted(set([paper.steps[number][0] for number in steps]))
    known = _needed_known(paper.known, [paper.trees[tree] for tree in trees])
    new_step, new_tree, new_place = _new_places(steps), _new_places(trees), _new_places(known)
    things = [thing_with_places(paper.known[place], lambda old: new_place[old]) for place in known]
    kept = [tree_with_places(paper.trees[tree], lambda old: new_place[old]) for tree in trees]
    blame = [_with_numbers(paper.steps[number], new_tree, new_step) for number in steps]
    return Paper(tuple(things), tuple(kept), tuple(blame))


def rests_on(setting, question, readings, paper, box, *, honest=()):
    """The sources on which the paper rests, in the order of its steps; None if it is not accepted for the box."""
    bench = Bench(setting, question, readings)
    if not bench.hears_all(paper.known):
        return None
    used = bench.sources_of(paper.trees, paper.steps, box)
    if not blames_right(used, paper.steps, honest=honest, liars=question.liars):
        return None
    trees = [paper.steps[number][0] for number in _needed_steps(paper.steps)]
    return tuple({source: True for tree in trees for source in used[tree]})
