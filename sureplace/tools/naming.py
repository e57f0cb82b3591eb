"""Numbers that the steps of trees name."""

from sureplace.judge.papers import Known


def named(tree, word):
    """The numbers in the steps of the tree with the word, each once, in the order of the steps."""
    return list({step[1]: True for step in tree if step[0] == word})


def tree_with_places(tree, new_place):
    """The tree, with a new place for each place of a known thing."""
    return tuple([("known", new_place(step[1])) if step[0] == "known" else step for step in tree])


def thing_with_places(thing, new_place):
    """The known thing, with a new place for each place of a known thing in its tree."""
    return Known(thing.moment, thing.cover, tree_with_places(thing.tree, new_place))
