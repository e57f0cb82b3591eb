"""What is shown of a single source: that it must lie or cannot lie, that it may lie or may tell the truth."""

from sureplace.given.questions import Question
from sureplace.judge.papers import judge_paper
from sureplace.witness.judging import judge_witness


class Standing:
    """Whether it is shown that the source must lie, that it cannot, that it may lie, and that it may not lie."""

    def __init__(self, must, cannot, lies, tells):
        self.must = must
        self.cannot = cannot
        self.lies = lies
        self.tells = tells

    def __eq__(self, other):
        return (isinstance(other, Standing) and self.must == other.must and self.cannot == other.cannot
                and self.lies == other.lies and self.tells == other.tells)


def _must(setting, question, readings, source, paper):
    """Tell whether the paper shows that the receiver was nowhere in the root, were the source honest."""
    if paper is None:
        return False
    return judge_paper(setting, question, readings, paper, question.root, honest=(source,))


def _cannot(setting, question, readings, source, paper):
    """Tell whether the paper shows that the receiver was nowhere in the root, were the source a liar."""
    if paper is None or question.liars == 0:
        return False
    others = [(number, reading) for number, reading in readings if reading.source != source]
    fewer = Question(question.moment, question.root, liars=question.liars - 1, share=question.share,
                     earliest=question.earliest, latest=question.latest)
    return judge_paper(setting, fewer, others, paper, question.root)


def _shown(setting, question, readings, witness):
    """Tell whether the witness shows that the receiver can have been in the root."""
    return witness is not None and judge_witness(setting, question, readings, witness, question.root)


def standing(setting, question, readings, source, *, must=None, cannot=None, lies=None, tells=None):
    """What the papers and the witnesses show of the source."""
    return Standing(
        _must(setting, question, readings, source, must),
        _cannot(setting, question, readings, source, cannot),
        _shown(setting, question, readings, lies) and source in lies.liars,
        _shown(setting, question, readings, tells) and source not in tells.liars)
