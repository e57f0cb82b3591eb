"""The words of things, as lists."""


def number_words(numbers):
    """The words of the numbers."""
    return [str(number) for number in numbers]


def list_words(members):
    """The words of a list; each of its members is given by its own words."""
    return [str(len(members))] + [word for member in members for word in member]


def box_words(box):
    """The words of a box: low and high of each side."""
    return [str(number) for side in box for number in side]


def setting_words(setting):
    """The words of a setting."""
    return number_words((setting.dims, setting.speed, setting.drift, setting.per))


def _kind_words(kind):
    """The words of a kind of readings."""
    if kind[0] == "boxes":
        return ["boxes"] + list_words([box_words(box) for box in kind[1]])
    return [kind[0]] + [str(number) for point in kind[1:] for number in point]


def reading_words(reading):
    """The words of a reading."""
    bounds = number_words((reading.low, reading.high, reading.late, reading.near))
    return [reading.source, str(reading.moment)] + _kind_words(reading.kind) + bounds


def question_words(question):
    """The words of a question."""
    others = number_words((question.liars, question.share, question.earliest, question.latest))
    return [str(question.moment)] + box_words(question.root) + others


def plan_words(plan):
    """The words of a plan."""
    moments = list_words([[str(moment)] for moment in plan.moments])
    without = list_words([list_words([[name] for name in names]) for names in plan.without])
    return number_words((plan.grain, plan.most)) + moments + without


def _tree_words(tree):
    """The words of a tree; a step is a word and its numbers."""
    return list_words([[step[0]] + number_words(step[1:]) for step in tree])


def _thing_words(thing):
    """The words of a known thing."""
    return [str(thing.moment)] + list_words([box_words(box) for box in thing.cover]) + _tree_words(thing.tree)


def things_words(known):
    """The words of the list of known things."""
    return list_words([_thing_words(thing) for thing in known])


def reasons_words(trees, steps):
    """The words of the list of trees and of the list of steps of blame."""
    blame = [[str(tree)] + list_words([[str(step)] for step in following]) for tree, following in steps]
    return list_words([_tree_words(tree) for tree in trees]) + list_words(blame)


def witness_words(witness):
    """The words of a witness."""
    liars = list_words([[name] for name in witness.liars])
    return liars + list_words([number_words(point) for point in witness.points])
