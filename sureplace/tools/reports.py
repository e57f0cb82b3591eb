"""Papers in lines of text, for people to read."""

from sureplace.tools.naming import named


def _joined(numbers):
    """The numbers, joined by commas."""
    return ",".join([str(number) for number in numbers]) if numbers else "-"


def _group(word, texts):
    """A line for each text, with its place, right-aligned to the width of the greatest one."""
    width = len(str(len(texts) - 1))
    return [f"{word} {str(place).rjust(width)}: {text}" for place, text in enumerate(texts)]


def _about_thing(thing):
    """What the line of a known thing tells."""
    return f"moment {thing.moment}, {len(thing.cover)} boxes, {len(thing.tree)} steps"


def _about_tree(tree):
    """What the line of a tree tells."""
    cuts = len([step for step in tree if step[0] == "cut"])
    readings, known = _joined(named(tree, "reading")), _joined(named(tree, "known"))
    return f"{len(tree)} steps, {cuts} cuts, readings {readings}, known {known}"


def report(paper):
    """The lines that describe the paper."""
    things = [_about_thing(thing) for thing in paper.known]
    trees = [_about_tree(tree) for tree in paper.trees]
    steps = [f"tree {tree}, next {_joined(following)}" for tree, following in paper.steps]
    return _group("known", things) + _group("tree", trees) + _group("step", steps)
