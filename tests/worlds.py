"""Worlds that move as their setting allows, readings that they keep, and readings of liars."""

from tests.helpers import a_question, a_reading, a_setting, any_kind, value_within

# Steps in a plane that are whole numbers long.
STEPS = ((0, 0), (0, 1), (1, 0), (0, -2), (3, 4), (-4, 3), (-3, -4), (5, 0), (-6, 8), (8, -6), (0, 10))
SOURCES = ("ant", "bee", "cat", "dog", "eel")


def a_step(chance, dims, longest):
    """A way, at most so long, along two of the axes."""
    step = chance.choice([step for step in STEPS if sum(n * n for n in step) <= longest ** 2])
    axes = chance.sample(range(dims), 2)
    return tuple(step[axes.index(axis)] if axis in axes else 0 for axis in range(dims))


def moved_by(place, step):
    return tuple(number + by for number, by in zip(place, step))


def a_world(chance, setting, ticks):
    """A place and an offset for each tick; between the ticks the way is straight. per is 1."""
    place, offset = tuple(chance.randint(-9, 9) for _ in range(setting.dims)), chance.randint(-5, 5)
    world = []
    for _ in range(ticks):
        world.append((place, offset))
        place = moved_by(place, a_step(chance, setting.dims, setting.speed))
        offset += chance.randint(-setting.drift, setting.drift)
    return world


def shifted(chance, part, near):
    """A point, or a tuple of boxes, with one shift of at most near."""
    if isinstance(part[0], int):
        return moved_by(part, a_step(chance, len(part), near))
    step = a_step(chance, len(part[0]), near)
    return tuple(tuple((low + by, high + by) for (low, high), by in zip(box, step)) for box in part)


def bounds_of(kind, place, offset):
    """The value of the kind at the place, rounded down and up."""
    low, high = -10 ** 6, 10 ** 6
    while high - low > 1:
        middle = (low + high) // 2
        if value_within(kind, place, offset, middle, 10 ** 7):
            low = middle
        else:
            high = middle
    return low, low if value_within(kind, place, offset, -10 ** 7, low) else low + 1


def a_reading_of(chance, world, source="a"):
    """A reading that the world keeps: its bounds hold at a time within late, for shifted points."""
    kind = any_kind(chance, len(world[0][0]))
    late, near = chance.randint(0, 3), chance.randint(0, 6)
    moment = chance.randrange(len(world))
    time = min(len(world) - 1, max(0, moment + chance.randint(-late, late)))
    place, offset = world[time]
    true = kind if kind[0] == "side" else kind[:1] + tuple(shifted(chance, part, near) for part in kind[1:])
    low, high = bounds_of(true, place, offset)
    return a_reading(source, moment, kind, low=low, high=high, late=late, near=near)


def a_plain_reading(chance, world, source):
    """A reading that says much: of the distance from a point, without being late or wrong."""
    moment = chance.randrange(len(world))
    kind = (chance.choice(("range", "range", "clocked")),
            tuple(chance.randint(-12, 12) for _ in range(len(world[0][0]))))
    low, high = bounds_of(kind, *world[moment])
    return a_reading(source, moment, kind, low=low, high=high)


def any_reading(chance, ticks, dims, source):
    """What a liar says: anything."""
    low = chance.randint(-10, 60)
    return a_reading(source, chance.randrange(ticks), any_kind(chance, dims), low=low, high=low + chance.randint(0, 9))


def some_liars(chance, many):
    """So many liars at most."""
    return tuple(chance.sample(SOURCES, chance.randint(0, many)))


def a_true_reading(chance, world, liars):
    """A reading that the world keeps, unless its source is a liar."""
    source = chance.choice(SOURCES)
    if source in liars:
        return any_reading(chance, len(world), len(world[0][0]), source)
    if chance.random() < 0.5:
        return a_plain_reading(chance, world, source)
    return a_reading_of(chance, world, source)


def a_case(chance, *, dims=2, share=3, many=10, ticks=9):
    """A setting, a question, readings, and the place and offset of a world that is true for them."""
    setting = a_setting(dims, speed=chance.choice((0, 1, 5)), drift=chance.randint(0, 1), per=1)
    world = a_world(chance, setting, ticks)
    allowed = chance.randint(0, 2)
    liars = some_liars(chance, allowed)
    readings = [(3 * number + 1, a_true_reading(chance, world, liars)) for number in range(many)]
    moment = chance.randrange(ticks)
    place, offset = world[moment]
    root = tuple((number - chance.randint(0, 30), number + chance.randint(0, 30)) for number in place)
    root += ((offset - chance.randint(0, 4), offset + chance.randint(0, 4)),)
    question = a_question(moment, root, liars=allowed, share=share, earliest=chance.randint(0, 2),
                          latest=chance.randint(6, 8))
    return setting, question, readings, place + (offset,)


def holds(box, here):
    """Is the place, with the offset, in the box?"""
    return all(low <= number <= high for number, (low, high) in zip(here, box))


def make_up(addresses):
    """Do the cells at these addresses make up the root, none of them twice?"""
    waiting, seen = [""], 0
    while waiting:
        address = waiting.pop()
        if address in addresses:
            seen += 1
        elif len(address) > 300:
            return False
        elif any(other.startswith(address) for other in addresses):
            waiting += [address + "0", address + "1"]
        else:
            return False
    return seen == len(addresses) == len(set(addresses))
