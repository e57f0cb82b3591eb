"""Things that are read from words; what cannot be read raises InvalidText with the place of the word."""

from sureplace.errors import InvalidPlan, InvalidQuestion, InvalidReading, InvalidSetting, InvalidText
from sureplace.given.questions import Question
from sureplace.given.readings import Reading
from sureplace.given.settings import Setting
from sureplace.judge.papers import Known
from sureplace.numbers.bounds import VAST, sides_within
from sureplace.search.plans import Plan
from sureplace.standing.bounded import MOST_MEMBERS
from sureplace.witness.ways import Witness

KINDS = ("range", "clocked", "differ", "side", "piece", "boxes")
OF_TWO_POINTS = ("differ", "piece")


def read_numbers(words, many):
    """So many numbers."""
    return tuple([words.number() for _ in range(many)])


def _read_box(words, sides):
    """A box with so many sides, which may be out of order."""
    return tuple([(words.number(), words.number()) for _ in range(sides)])


def read_setting(words):
    """A setting."""
    dims, speed, drift, per = read_numbers(words, 4)
    try:
        return Setting(dims, speed=speed, drift=drift, per=per)
    except InvalidSetting:
        raise InvalidText(words.place) from None


def _read_kind(words, dims):
    """A kind of readings."""
    word = words.word(KINDS)
    if word == "boxes":
        return word, tuple([_read_box(words, dims) for _ in range(words.length())])
    points = 2 if word in OF_TWO_POINTS else 1
    return (word,) + tuple([read_numbers(words, dims) for _ in range(points)])


def read_reading(words, setting):
    """A reading that fits the setting."""
    source = words.name()
    moment = words.number()
    kind = _read_kind(words, setting.dims)
    low, high, late, near = read_numbers(words, 4)
    try:
        return Reading(source, moment, kind, low=low, high=high, late=late, near=near)
    except InvalidReading:
        raise InvalidText(words.place) from None


def read_question(words, setting):
    """A question that fits the setting."""
    moment = words.number()
    root = _read_box(words, setting.dims + 1)
    liars, share, earliest, latest = read_numbers(words, 4)
    try:
        return Question(moment, root, liars=liars, share=share, earliest=earliest, latest=latest)
    except InvalidQuestion:
        raise InvalidText(words.place) from None


def _read_names(words):
    """A list of names, as a tuple."""
    return tuple([words.name() for _ in range(words.length())])


def read_plan(words):
    """A plan, whose texts in without are names."""
    grain, most = read_numbers(words, 2)
    moments = read_numbers(words, words.length())
    without = tuple([_read_names(words) for _ in range(words.length())])
    try:
        return Plan(moments, grain=grain, most=most, without=without)
    except InvalidPlan:
        raise InvalidText(words.place) from None


def _members(words):
    """How many members a list has that is a part of an offer."""
    return words.number(0, MOST_MEMBERS)


def _read_cover_box(words, dims):
    """A box of a cover."""
    box = _read_box(words, dims + 1)
    if not sides_within(box, VAST):
        raise InvalidText(words.place)
    return box


def _read_step(words):
    """A step of a tree."""
    word = words.word(("cut", "reading", "known", "kept"))
    number = words.number(0, VAST)
    return (word, number, words.number()) if word == "cut" else (word, number)


def _read_tree(words):
    """A tree, which need not be exactly one."""
    return tuple([_read_step(words) for _ in range(_members(words))])


def _read_thing(words, dims):
    """A known thing."""
    moment = words.number()
    cover = tuple([_read_cover_box(words, dims) for _ in range(_members(words))])
    return Known(moment, cover, _read_tree(words))


def read_things(words, dims, most=MOST_MEMBERS):
    """A list of known things, as a tuple, with at most so many of them."""
    return tuple([_read_thing(words, dims) for _ in range(words.number(0, most))])


def _read_blame(words):
    """A step of blame."""
    tree = words.number(0, VAST)
    return tree, tuple([words.number(0, VAST) for _ in range(_members(words))])


def read_reasons(words):
    """The pair of a list of trees and of a list of steps of blame, each of them as a tuple."""
    trees = tuple([_read_tree(words) for _ in range(_members(words))])
    return trees, tuple([_read_blame(words) for _ in range(_members(words))])


def read_witness(words, dims):
    """A witness."""
    liars = tuple([words.name() for _ in range(_members(words))])
    return Witness(liars, tuple([read_numbers(words, dims + 2) for _ in range(_members(words))]))
