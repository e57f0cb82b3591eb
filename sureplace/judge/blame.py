"""Steps of blame: whoever lies, one of the trees rests on honest sources alone."""


def _next_steps_right(number, count, suspects, following, left):
    """Tell whether a step has the next steps that it needs, each of them behind it."""
    if left == 0:
        return len(following) == 0
    return len(following) == len(suspects) and all([number < step < count for step in following])


def _lead(marks, step, left, barred):
    """Let one more way lead to the step, with how many can still lie, and with barred names."""
    known, names = marks.get(step, (left, ()))
    further = tuple([name for name in barred if name not in names])
    marks[step] = (max(left, known), names + further)


def blames_right(used, steps, *, honest=(), liars):
    """Tell whether the steps of blame are right for these sources of trees."""
    if len(steps) == 0:
        return False
    marks = {0: (liars, ())}
    for number in range(len(steps)):
        if number not in marks:
            continue
        left, barred = marks[number]
        tree, following = steps[number]
        if not 0 <= tree < len(used) or used[tree] is None:
            return False
        sources = used[tree]
        if any([source in barred for source in sources]):
            return False
        suspects = [source for source in sources if source not in honest]
        if not _next_steps_right(number, len(steps), suspects, following, left):
            return False
        for suspect, step in zip(suspects, following):
            _lead(marks, step, left - 1, barred + (suspect,))
    return True
