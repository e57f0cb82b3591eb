"""Receivers that are saved as texts, and loaded from them."""

from sureplace.numbers.bounds import VAST
from sureplace.standing.receiver import revived
from sureplace.texts.ledgers import ledger_words, read_ledger
from sureplace.texts.reading import read_setting
from sureplace.texts.watches import read_watch, watch_words
from sureplace.texts.words import Words
from sureplace.texts.writing import list_words, setting_words

FIRST = "sureplace"
FORM = "1"


def save(receiver):
    """The text of the receiver."""
    words = [FIRST, FORM] + setting_words(receiver.setting) + ledger_words(receiver.ledger)
    standing = [[str(number)] + watch_words(receiver.watch(number)) for number in receiver.questions]
    return " ".join(words + [str(receiver.next_number)] + list_words(standing))


def load(text):
    """The receiver of the text; what the text claims about cells and known things is judged."""
    words = Words(text)
    words.word((FIRST,))
    words.word((FORM,))
    setting = read_setting(words)
    ledger = read_ledger(words, setting)
    following = words.number(1, VAST)
    watches = []
    least = 1
    for _ in range(words.length()):
        number = words.number(least, following - 1)
        watches.append((number, read_watch(words, setting)))
        least = number + 1
    words.finish()
    return revived(setting, ledger, following, watches)
