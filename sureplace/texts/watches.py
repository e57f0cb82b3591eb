"""The words of standing questions."""

from sureplace.errors import InvalidText
from sureplace.numbers.boxes import halves, is_small
from sureplace.standing.division import Cell
from sureplace.standing.receiver import LONGEST_ADDRESS
from sureplace.standing.watch import MOST_THINGS, watching
from sureplace.texts.reading import read_question, read_reasons, read_things, read_witness
from sureplace.texts.writing import question_words, reasons_words, things_words, witness_words


def _cell_words(watch, address, verdict):
    """The words of a cell that is not cut."""
    if verdict == "out":
        paper = watch.paper(address)
        return [verdict] + reasons_words(paper.trees, paper.steps)
    return [verdict] + witness_words(watch.witness(address)) if verdict == "in" else [verdict]


def _division_words(watch):
    """The words of all cells, each cell that is cut before its halves."""
    verdicts = {address: verdict for address, verdict in watch.cells()}
    found = []
    waiting = [""]
    while waiting:
        address = waiting.pop()
        if address in verdicts:
            found.extend(_cell_words(watch, address, verdicts[address]))
        else:
            found.append("cut")
            waiting.append(address + "1")
            waiting.append(address + "0")
    return found


def watch_words(watch):
    """The words of a standing question."""
    return question_words(watch.question) + things_words(watch.things()) + _division_words(watch)


def _read_cell(words, setting, question, box, verdict):
    """A cell that is not cut, its verdict having been read."""
    if verdict == "out":
        trees, steps = read_reasons(words)
        return Cell(verdict, box, trees=trees, steps=steps)
    if verdict == "open":
        return Cell(verdict)
    witness = read_witness(words, setting.dims)
    if not is_small(box, question.share):
        raise InvalidText(words.place)
    return Cell(verdict, box, witness=witness)


def _read_division(words, setting, question):
    """The cells that are not cut, as (address, cell)."""
    found = []
    # The cells whose words are still to come, the next one last.
    waiting = [("", question.root)]
    while waiting:
        address, box = waiting.pop()
        verdict = words.word(("cut", "open", "out", "in"))
        if verdict == "cut":
            parts = halves(box)
            if parts is None or len(address) >= LONGEST_ADDRESS:
                raise InvalidText(words.place)
            waiting.append((address + "1", parts[1]))
            waiting.append((address + "0", parts[0]))
        else:
            found.append((address, _read_cell(words, setting, question, box, verdict)))
    return found


def read_watch(words, setting):
    """A standing question, of which nothing has been judged yet."""
    question = read_question(words, setting)
    things = read_things(words, setting.dims, MOST_THINGS)
    return watching(question, things, _read_division(words, setting, question))
