"""Names that meet all trees, and the steps of blame that show that there are none."""


def _first_clean(used, path, start):
    """The first tree, from the start on, that rests on none of the names; None if there is no such tree."""
    for tree in range(start, len(used)):
        if used[tree] is not None and not any([name in path for name in used[tree]]):
            return tree
    return None


def _paths(used, honest, liars):
    """Go through the paths of the search, as (path, tree, step).

    The tree is the first one that rests on nobody of the path, or None; the step is the number, among the
    paths with a tree, of the one that was made longer to this path.
    """
    waiting = [((), 0, None)]
    many = 0
    while waiting:
        path, start, step = waiting.pop()
        # All trees before the start are met by what the path had before.
        tree = _first_clean(used, path, start)
        yield path, tree, step
        if tree is not None:
            if len(path) < liars:
                for name in reversed(used[tree]):
                    if name not in honest:
                        waiting.append((path + (name,), tree + 1, many))
            many += 1


def make_steps(used, *, honest=(), liars):
    """("steps", steps of blame), or ("liars", names that can be all the liars)."""
    trees = []
    following = []
    for path, tree, step in _paths(used, honest, liars):
        if tree is None:
            return "liars", path
        if step is not None:
            following[step].append(len(trees))
        trees.append(tree)
        following.append([])
    return "steps", tuple([(tree, tuple(numbers)) for tree, numbers in zip(trees, following)])


def meetings(used, *, honest=(), liars):
    """Go through the paths whose names meet every tree."""
    for path, tree, _ in _paths(used, honest, liars):
        if tree is None:
            yield path


def _each_is_needed(names, trees):
    """Tell whether each name meets a tree that no other one of the names meets."""
    needed = {}
    for sources in trees:
        met = [name for name in names if name in sources]
        if len(met) == 1:
            needed[met[0]] = True
    return len(needed) == len(names)


def least_sets(used, *, honest=(), liars):
    """The meetings as sets, without those that contain a smaller one."""
    trees = list({sources: True for sources in used if sources is not None})
    order = list({name: True for sources in trees for name in sources})
    found = {}
    for path in meetings(used, honest=honest, liars=liars):
        found[tuple([name for name in order if name in path])] = True
    # Without a name that is not needed, the others still meet all trees: they contain a smaller meeting.
    return [names for names in found if _each_is_needed(names, trees)]


def fewest(sets):
    """The length of the shortest of the least sets; None if there are none."""
    return min([len(names) for names in sets], default=None)


def surely(sets):
    """The names that are in each of the least sets, in the order of the first one."""
    return tuple([name for names in sets[:1] for name in names if all([name in other for other in sets])])
