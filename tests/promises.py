"""What the document promises of every search (points [61] to [64])."""

from sureplace.judge.papers import Paper, judge_known, judge_paper, used_by
from sureplace.numbers.boxes import cell_at, halves, is_small
from sureplace.witness.judging import judge_witness
from tests.worlds import holds, make_up


def check_found(test, setting, question, readings, found, here, *, chance, many=20):
    """What is found is shown, for so many cells of it, makes up the root, and does not leave out the world."""
    held = judge_known(setting, question, readings, found.known)
    test.assertIsNotNone(held)
    for told in chance.sample(found.told, min(many, len(found.told))):
        check_told(test, setting, question, readings, found, held, told)
    cells = [(told.cell, told.box) for told in found] + found.left
    for address, box in cells:
        test.assertEqual(cell_at(question.root, address), box)
    test.assertTrue(make_up([address for address, _ in cells]))
    test.assertFalse([told.cell for told in found if told.verdict == "out" and holds(told.box, here)])
    there = [box for _, box in found.left] + [told.box for told in found if told.verdict != "out"]
    test.assertTrue(any(holds(box, here) for box in there))


def check_told(test, setting, question, readings, found, held, told):
    """A cell that is told is shown to be as it is told."""
    if told.verdict == "out":
        paper = Paper(found.known, told.trees, told.steps)
        test.assertIs(judge_paper(setting, question, readings, paper, told.box), True)
        test.assertEqual((told.witness, told.names), (None, ()))
        return
    test.assertTrue(is_small(told.box, question.share) or halves(told.box) is None)
    test.assertEqual((told.trees, told.steps), ((), ()))
    if told.verdict == "in":
        test.assertIs(judge_witness(setting, question, readings, told.witness, told.box), True)
        test.assertEqual(told.names, ())
        return
    test.assertEqual((told.verdict, told.witness), ("stuck", None))
    trees = [(("reading", number),) for number, _ in readings] + [(("known", at),) for at in range(len(held))]
    used = [sources for sources in used_by(setting, question, readings, held, trees, told.box) if sources is not None]
    test.assertTrue(all(set(sources) & set(told.names) for sources in used))
    test.assertLessEqual(len(told.names), question.liars)
    test.assertEqual(len(told.names), len(set(told.names)))
