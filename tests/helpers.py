"""What several tests need: small things to judge, and exact comparisons of roots."""

import random
from fractions import Fraction

from sureplace.errors import (
    InvalidAddress, InvalidLine, InvalidPlan, InvalidQuestion, InvalidReading, InvalidSetting, InvalidText,
    NotPinned, SurePlaceError, UnknownMoment, UnknownQuestion)
from sureplace.given.questions import Question
from sureplace.given.readings import Reading
from sureplace.given.settings import Setting

ONE_ARGUMENT = (InvalidSetting, InvalidReading, InvalidQuestion, InvalidPlan, InvalidAddress,
                UnknownQuestion, UnknownMoment, NotPinned)
ERRORS = ONE_ARGUMENT + (InvalidText, InvalidLine)

LIMIT = 10 ** 12
FAR = 10 ** 15

KINDS = (
    ("range", (1, 2)),
    ("clocked", (1, 2)),
    ("differ", (1, 2), (3, 4)),
    ("side", (1, -2)),
    ("piece", (1, 2), (3, 4)),
    ("boxes", (((0, 1), (2, 3)),)),
)


def a_setting(dims=2, *, speed=3, drift=1, per=2):
    return Setting(dims, speed=speed, drift=drift, per=per)


def a_reading(source="a", moment=0, kind=("range", (0, 0)), *, low=0, high=10, late=0, near=0):
    return Reading(source, moment, kind, low=low, high=high, late=late, near=near)


def says_x(source, low, high, moment=0):
    """A reading that the first number of the place is from low to high."""
    return a_reading(source, moment, ("side", (1, 0)), low=low, high=high)


def a_question(moment=0, root=((0, 8), (0, 8), (0, 0)), *, liars=1, share=1, earliest=-10, latest=10):
    return Question(moment, root, liars=liars, share=share, earliest=earliest, latest=latest)


def raised(call, *args, **more):
    """The class of the error that the call raises; None if it raises none."""
    try:
        call(*args, **more)
    except Exception as error:
        return error.__class__
    return None


def dice(seed):
    return random.Random(seed)


def a_box(chance, sides, low=-9, high=9, longest=6):
    """Any box with so many sides."""
    box = []
    for _ in range(sides):
        begin = chance.randint(low, high)
        box.append((begin, begin + chance.randint(0, longest)))
    return tuple(box)


def a_point(chance, dims, low=-9, high=9):
    return tuple(chance.randint(low, high) for _ in range(dims))


def any_kind(chance, dims):
    """Any kind, with small numbers."""
    word = chance.choice(("range", "clocked", "differ", "side", "piece", "boxes"))
    if word in ("range", "clocked"):
        return (word, a_point(chance, dims))
    if word in ("differ", "piece"):
        return (word, a_point(chance, dims), a_point(chance, dims))
    if word == "side":
        direction = a_point(chance, dims, -5, 5)
        return (word, direction if any(direction) else (1,) * dims)
    return (word, tuple(a_box(chance, dims) for _ in range(chance.randint(1, 3))))


def places_of(box):
    """All whole places of a box."""
    found = [()]
    for low, high in box:
        found = [place + (number,) for place in found for number in range(low, high + 1)]
    return found


def squared(one, two):
    """The squared distance of two places."""
    return sum((a - b) ** 2 for a, b in zip(one, two))


def squared_from_box(place, box):
    return sum(max(0, low - number, number - high) ** 2 for number, (low, high) in zip(place, box))


def squared_from_piece(place, at, to):
    """The squared distance of a place from a piece, as an exact fraction."""
    length = squared(at, to)
    if length == 0:
        return Fraction(squared(place, at))
    along = Fraction(sum((p - a) * (t - a) for p, a, t in zip(place, at, to))) / length
    along = min(Fraction(1), max(Fraction(0), along))
    return squared(place, [a + along * (t - a) for a, t in zip(at, to)])


def root_at_most(number, bound):
    """Is the root of the number at most the bound? Exactly."""
    return bound >= 0 and number <= bound * bound


def roots_at_most(number, other, bound):
    """Is the root of the number minus the root of the other one at most the bound? Exactly."""
    if bound >= 0:
        rest = number - other - bound * bound
        return rest <= 0 or rest * rest <= 4 * bound * bound * other
    rest = other - number - bound * bound
    return rest >= 0 and 4 * bound * bound * number <= rest * rest


def value_within(kind, place, offset, low, high):
    """Is the value of the kind, at the place and the offset, from low to high? Exactly."""
    word = kind[0]
    if word == "side":
        return low <= sum(a * b for a, b in zip(kind[1], place)) <= high
    if word == "clocked":
        low, high = low - offset, high - offset
    if word == "differ":
        one, two = squared(place, kind[1]), squared(place, kind[2])
    elif word == "piece":
        one, two = squared_from_piece(place, kind[1], kind[2]), 0
    elif word == "boxes":
        one, two = min(squared_from_box(place, box) for box in kind[1]), 0
    else:
        one, two = squared(place, kind[1]), 0
    # root(one) - root(two) >= low is the same as root(two) - root(one) <= -low.
    return roots_at_most(one, two, high) and roots_at_most(two, one, -low)
