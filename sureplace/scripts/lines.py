"""Lines of scripts, and the deeds that they tell."""

from sureplace.given.questions import Question
from sureplace.given.readings import Reading
from sureplace.search.plans import Plan
from sureplace.texts.reading import read_numbers, read_plan, read_question, read_reading, read_setting
from sureplace.texts.words import Words
from sureplace.texts.writing import number_words, plan_words, question_words, reading_words

# The parts of a deed behind its first word.
PARTS = {
    "put": ("reading",),
    "correct": ("count", "reading"),
    "withdraw": ("count",),
    "pin": (),
    "unpin": ("count",),
    "floor": ("count",),
    "readings": ("count",),
    "ask": ("question",),
    "end": ("count",),
    "search": ("count", "count", "plan"),
    "told": ("count",),
    "level": ("count", "place"),
    "save": (),
}


def _read_part(words, setting, part):
    """A part of a deed."""
    if part == "count":
        return words.length()
    if part == "reading":
        return read_reading(words, setting)
    if part == "question":
        return read_question(words, setting)
    if part == "plan":
        return read_plan(words)
    return read_numbers(words, setting.dims)


def read_deed(text, setting):
    """The deed of a line that is not the first one, as a tuple: its first word and its parts."""
    words = Words(text)
    word = words.word(tuple(PARTS))
    deed = (word,) + tuple([_read_part(words, setting, part) for part in PARTS[word]])
    words.finish()
    return deed


def read_beginning(text):
    """The setting that the first line of a script tells."""
    words = Words(text)
    words.word(("setting",))
    setting = read_setting(words)
    words.finish()
    return setting


def _part_words(part):
    """The words of a part of a deed."""
    if isinstance(part, Reading):
        return reading_words(part)
    if isinstance(part, Question):
        return question_words(part)
    if isinstance(part, Plan):
        return plan_words(part)
    return number_words(part) if isinstance(part, tuple) else [str(part)]


def write_deed(deed):
    """The line of the deed."""
    return " ".join([deed[0]] + [word for part in deed[1:] for word in _part_words(part)])
