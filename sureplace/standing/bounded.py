"""Which offers are bounded: their numbers, and the lengths of their lists."""

from sureplace.given.names import is_name
from sureplace.numbers.bounds import VAST, all_within, sides_within

MOST_MEMBERS = 100000


def _step_bounded(step):
    """Tell whether the step of a tree is bounded."""
    if step[0] == "cut":
        return 0 <= step[1] <= VAST and -VAST <= step[2] <= VAST
    return step[0] in ("reading", "known", "kept") and 0 <= step[1] <= VAST


def _tree_bounded(tree):
    """Tell whether the tree is bounded."""
    return len(tree) <= MOST_MEMBERS and all([_step_bounded(step) for step in tree])


def _blame_bounded(step):
    """Tell whether the step of blame is bounded."""
    tree, following = step
    return 0 <= tree <= VAST and len(following) <= MOST_MEMBERS and all_within(following, 0, VAST)


def _box_bounded(setting, box):
    """Tell whether the box of a cover is bounded."""
    return len(box) == setting.dims + 1 and sides_within(box, VAST)


def _point_bounded(setting, point):
    """Tell whether the point of a witness is bounded."""
    return len(point) == setting.dims + 2 and all_within(point, -VAST, VAST)


def thing_bounded(setting, thing):
    """Tell whether the known thing is bounded."""
    return (-VAST <= thing.moment <= VAST and len(thing.cover) <= MOST_MEMBERS
            and all([_box_bounded(setting, box) for box in thing.cover]) and _tree_bounded(thing.tree))


def reasons_bounded(trees, steps):
    """Tell whether the trees and the steps of blame are bounded."""
    return (len(trees) <= MOST_MEMBERS and len(steps) <= MOST_MEMBERS
            and all([_tree_bounded(tree) for tree in trees]) and all([_blame_bounded(step) for step in steps]))


def witness_bounded(setting, witness):
    """Tell whether the witness is bounded."""
    return (len(witness.liars) <= MOST_MEMBERS and len(witness.points) <= MOST_MEMBERS
            and all([is_name(name) for name in witness.liars])
            and all([_point_bounded(setting, point) for point in witness.points]))
