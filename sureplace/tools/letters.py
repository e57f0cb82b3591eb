"""Papers and witnesses that are sent as texts."""

from sureplace.judge.papers import Paper
from sureplace.texts.reading import read_reasons, read_things, read_witness
from sureplace.texts.words import Words
from sureplace.texts.writing import reasons_words, things_words, witness_words

PAPER = "paper"
WITNESS = "witness"


def write_paper(paper, dims):
    """The text of the paper."""
    return " ".join([PAPER, str(dims)] + things_words(paper.known) + reasons_words(paper.trees, paper.steps))


def write_witness(witness, dims):
    """The text of the witness."""
    return " ".join([WITNESS, str(dims)] + witness_words(witness))


def read_paper(text):
    """The paper of the text."""
    words = Words(text)
    words.word((PAPER,))
    known = read_things(words, words.number(2, 3))
    trees, steps = read_reasons(words)
    words.finish()
    return Paper(known, trees, steps)


def read_a_witness(text):
    """The witness of the text."""
    words = Words(text)
    words.word((WITNESS,))
    witness = read_witness(words, words.number(2, 3))
    words.finish()
    return witness
