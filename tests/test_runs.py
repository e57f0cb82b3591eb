"""Runs of scripts (points [116] to [122])."""

import copy
import unittest

from sureplace.errors import InvalidLine, InvalidPlan, InvalidText, NotPinned, UnknownMoment, UnknownQuestion
from sureplace.judge.papers import Known
from sureplace.levels.levels import level_above, level_below
from sureplace.scripts.lines import read_deed, write_deed
from sureplace.scripts.runs import Run, run
from sureplace.search.plans import Plan
from sureplace.search.searching import search
from sureplace.standing.receiver import Receiver
from sureplace.texts.saved import load, save
from sureplace.tracks.track import Track
from tests.busy import Busy, state_of
from tests.helpers import a_question, a_reading, a_setting, dice, raised, root_at_most, squared
from tests.worlds import holds

STILL = "setting 2 0 0 1"
Q = "0 0 8 0 0 0 0 0 2 -9 9"


def says_x(source, low, high):
    """A reading, as words, that the first number of the place is from low to high."""
    return f"{source} 0 side 1 0 {low} {high} 0 0"


class Case(unittest.TestCase):
    def script(self, *pairs, setting=STILL):
        """Runs lines, each with the results that are due."""
        lines = [setting] + [line for line, _ in pairs]
        before = list(lines)
        told = run(lines)
        self.assertIs(type(told), list)
        self.assertEqual(lines, before)
        self.assertEqual(told, [result for _, results in pairs for result in results])


class Deeds(Case):
    def test_no_lines_and_one_line(self):
        self.assertEqual(run([]), [])
        self.assertEqual(run([STILL]), [])

    def test_readings(self):
        a, b, c = says_x("a", 3, 9), says_x("b", -9, 4), says_x("c", 0, 8)
        self.script(
            ("readings 0", []), ("put " + a, ["write 1"]), ("put " + b, ["write 2"]),
            ("readings 2", [f"reading 1 {a}", f"reading 2 {b}"]), ("correct 1 " + c, ["write 3"]),
            ("correct 3 " + c, ["none"]), ("withdraw 2", ["write 4"]), ("withdraw 2", ["none"]),
            ("readings 4", [f"reading 1 {c}"]), ("readings 1", [f"reading 1 {a}"]), ("readings 0", []),
            ("readings 5", ["refused UnknownMoment"]), ("pin", ["moment 4"]), ("put " + a, ["write 5"]),
            ("floor 9", ["floor 5"]), ("floor 0", ["floor 5"]), ("readings 4", [f"reading 1 {c}"]),
            ("readings 3", ["refused UnknownMoment"]), ("unpin 4", ["done"]), ("unpin 4", ["refused NotPinned"]),
            ("readings 4", ["refused UnknownMoment"]), ("readings 5", [f"reading 1 {c}", f"reading 5 {a}"]))

    def test_no_room(self):
        lines = [(f"put {says_x(f'n{k}', 0, 9)}", [f"write {k}"]) for k in range(1, 33)]
        self.script(*lines, ("put " + says_x("other", 0, 9), ["none"]), ("put " + says_x("n1", 0, 9), ["write 33"]))

    def test_questions(self):
        refused = ["refused UnknownQuestion"]
        self.script(
            ("told 1", refused), ("level 1 0 0", refused), ("end 1", refused), ("search 1 5 1 1 0 0", refused),
            ("ask " + Q, ["question 1"]), ("ask " + Q, ["question 2"]), ("told 2", ["cell root open"]),
            ("end 1", ["done"]), ("end 1", refused), ("told 1", refused), ("ask " + Q, ["question 3"]),
            ("told 0", refused), ("told 3", ["cell root open"]))

    def test_searches(self):
        plan = "1 9 1 0 1 0"
        self.script(
            ("put " + says_x("a", 3, 9), ["write 1"]), ("put " + says_x("b", -9, 4), ["write 2"]),
            ("ask " + Q, ["question 1"]), (f"search 1 0 {plan}", ["offered 1 0 0 0 1"]),
            # The thing at place 0 is known already.
            (f"search 1 0 {plan}", ["offered 0 0 0 0 1"]),
            ("told 1", ["cell root open"]), ("level 1 0 0", ["level 8 0"]), ("level 1 -1 -1", ["level 10 0"]),
            (f"search 1 3 {plan}", ["offered 0 0 0 0 4"]), (f"search 1 4 {plan}", ["offered 0 1 0 0 3"]),
            ("told 1", ["cell 00 out", "cell 01 open", "cell 1 open"]),
            # What is out cannot be refuted again.
            (f"search 1 99 {plan}", ["offered 0 1 2 0 0"]),
            ("told 1", ["cell 00 out", "cell 01 in", "cell 10 in", "cell 11 out"]),
            (f"search 1 99 {plan}", ["offered 0 0 0 0 0"]), ("level 1 0 0", ["level 6 5"]),
            ("level 1 3 4", ["level 5 4"]),
            ("withdraw 1", ["write 3", "fell 1 00"]),
            ("told 1", ["cell 00 open", "cell 01 in", "cell 10 in", "cell 11 out"]),
            ("level 1 8 0", ["level 8 5"]))

    def test_what_fell(self):
        self.script(
            ("put " + says_x("a", 9, 9), ["write 1"]), ("ask " + Q, ["question 1"]), ("ask " + Q, ["question 2"]),
            ("ask 0 0 4 0 0 0 0 0 2 -9 9", ["question 3"]), ("search 1 9 1 1 0 0", ["offered 0 1 0 0 0"]),
            ("put " + says_x("b", 5, 99), ["write 2"]), ("correct 1 " + says_x("a", 3, 9), ["write 3", "fell 1 root"]),
            ("search 2 99 1 1 0 0", ["offered 0 1 2 0 0"]), ("search 3 99 1 1 0 0", ["offered 0 1 0 0 0"]),
            ("told 2", ["cell 0 out", "cell 10 in", "cell 11 in"]),
            ("withdraw 2", ["write 4", "fell 2 0", "fell 3 root"]), ("withdraw 1", ["write 5"]),
            ("put " + says_x("c", 60, 99), ["write 6", "fell 2 10,11"]))

    def test_stuck_cells(self):
        # Far away there is a reading that no witness keeps, and that excludes nothing on the line.
        far = "z 9 side 1 0 90 99 0 0"
        self.script(("put " + far, ["write 1"]), ("ask " + Q, ["question 1"]),
                    ("search 1 99 1 1 0 0", ["offered 0 0 0 4 0"]), ("search 1 5 1 1 0 0", ["offered 0 0 0 2 2"]),
                    ("told 1", ["cell root open"]), setting="setting 2 10 0 1")

    def test_plans(self):
        self.script(
            ("ask 0 0 8 0 0 0 0 0 2 3 7", ["question 1"]), ("search 1 0 1 1 2 3 7 0", ["offered 0 0 0 0 1"]),
            ("search 1 0 1 1 1 2 0", ["refused InvalidPlan"]), ("search 1 0 1 1 2 3 8 1 0", ["refused InvalidPlan"]),
            ("search 2 0 1 1 1 2 0", ["refused UnknownQuestion"]), ("told 1", ["cell root open"]))

    def test_saved(self):
        text = "sureplace 1 2 0 0 1 0 0 0 0 1 0"
        self.script(("save", ["text " + text]), ("pin", ["moment 0"]), ("save", [f"text {text[:21]} 0 1 0 0 1 0"]))

    def test_the_script_goes_on_after_a_refusal(self):
        self.script(("unpin 3", ["refused NotPinned"]), ("end 7", ["refused UnknownQuestion"]),
                    ("readings 9", ["refused UnknownMoment"]), ("pin", ["moment 0"]))


class NoDeeds(unittest.TestCase):
    def wrong(self, lines, line, place):
        with self.assertRaises(InvalidLine) as caught:
            run(lines)
        self.assertEqual((caught.exception.line, caught.exception.place), (line, place), lines)

    def test_the_first_line(self):
        for line, place in (("", 0), ("pin", 0), ("settings 2 0 0 1", 0), ("setting", 1), ("setting 2 0 0", 4),
                            ("setting 2 0 0 1 0", 5), ("setting 4 0 0 1", 5), ("setting 2 0 0 0 x", 5),
                            ("setting 2 -1 0 1", 5), ("setting 2 x 0 1", 2), ("setting  2 0 0 1", 1),
                            (f"setting 2 0 0 {10 ** 18 + 1}", 4), ("save", 0)):
            self.wrong([line], 0, place)
            self.wrong([line, "pin"], 0, place)
        self.assertEqual(run(["setting 3 1000000000000 0 1", "pin"]), ["moment 0"])

    def test_later_lines(self):
        for line, place in (("", 0), (STILL, 0), ("pin 0", 1), ("pin ", 1), ("put a 0 side 0 0 0 9 0 0", 10), ("told", 1),
                            ("told -1", 1), ("put a 0 side 1 0 0 0 9 0 0", 10), ("ask 0 0 8 0 0 0 0 4 2 -9 9", 12),
                            ("search 1 1 0 1 0 0", 7), ("level 1 0", 3), ("level 1 0 0 0", 4), ("walk", 0)):
            self.wrong([STILL, line], 1, place)
            self.wrong([STILL, "pin", "told 7", line, "also wrong"], 3, place)

    def test_the_number_of_directions(self):
        self.wrong(["setting 3 0 0 1", "level 1 0 0"], 1, 4)
        self.assertEqual(run(["setting 3 0 0 1", "level 1 0 0 0"]), ["refused UnknownQuestion"])


class Runs(unittest.TestCase):
    def test_deeds_of_a_run(self):
        one = Run(a_setting(2, speed=0, drift=0, per=1))
        self.assertIsInstance(one.receiver, Receiver)
        self.assertEqual(one.receiver.setting, a_setting(2, speed=0, drift=0, per=1))
        reading = a_reading("a", 0, ("side", (1, 0)), low=3, high=9)
        for deed, due in ((("put", reading), ["write 1"]), (("pin",), ["moment 1"]), (("told", 1), ["refused UnknownQuestion"]),
                          (("readings", 1), ["reading 1 a 0 side 1 0 3 9 0 0"]), (("readings", 0), [])):
            told = one.do(deed)
            self.assertEqual(told, due)
            self.assertIs(type(told), list)
        self.assertEqual(one.receiver.there(), [(1, reading)])

    def test_equal_only_to_itself(self):
        one = Run(a_setting())
        self.assertTrue(one == one)
        self.assertFalse(one == Run(a_setting()))

    def test_resumed(self):
        one = Run(a_setting(2))
        one.do(("put", a_reading())), one.do(("ask", a_question()))
        other = Run.resumed(save(one.receiver))
        self.assertIsInstance(other, Run)
        self.assertEqual(state_of(other.receiver), state_of(one.receiver))
        with self.assertRaises(InvalidText) as caught:
            Run.resumed("sureplace 1 4 0 0 1")
        self.assertEqual(caught.exception.place, 6)


class Twin:
    """A receiver of its own, for which the same calls are made."""

    def __init__(self, setting):
        self.receiver = Receiver(setting)

    def do(self, deed):
        try:
            return getattr(self, "do_" + deed[0])(*deed[1:])
        except (UnknownQuestion, UnknownMoment, NotPinned, InvalidPlan) as error:
            return ["refused " + type(error).__name__]

    def told_of(self, write):
        if write is None:
            return ["none"]
        return [f"write {write.number}"] + [
            f"fell {number} {','.join(address or 'root' for address in fell)}" for number, fell in write.fallen]

    def do_put(self, reading):
        return self.told_of(self.receiver.put(reading))

    def do_correct(self, number, reading):
        return self.told_of(self.receiver.correct(number, reading))

    def do_withdraw(self, number):
        return self.told_of(self.receiver.withdraw(number))

    def do_pin(self):
        return [f"moment {self.receiver.pin()}"]

    def do_unpin(self, moment):
        self.receiver.unpin(moment)
        return ["done"]

    def do_floor(self, moment):
        return [f"floor {self.receiver.raise_floor(moment)}"]

    def do_readings(self, moment):
        there = self.receiver.ledger.readings(moment)
        return [write_deed(("put", reading)).replace("put", f"reading {number}", 1) for number, reading in there]

    def do_ask(self, question):
        return [f"question {self.receiver.ask(question)}"]

    def do_end(self, number):
        self.receiver.end(number)
        return ["done"]

    def do_search(self, number, steps, plan):
        receiver = self.receiver
        question, known = receiver.question(number), receiver.known(number)
        found = search(receiver.setting, question, receiver.there(), plan, steps)
        learned = [receiver.learn(number, thing) for place, thing in enumerate(found.known) if place >= len(known)]
        accepted = {"out": [], "in": [], "stuck": []}
        for told in found.told:
            if told.verdict == "stuck":
                accepted["stuck"].append(True)
            elif told.verdict == "in":
                accepted["in"].append(receiver.reach(number, told.cell, told.witness))
            else:
                accepted["out"].append(receiver.refute(number, told.cell, told.trees, told.steps))
        counts = [sum(place is not None for place in learned)] + [sum(accepted[word]) for word in accepted]
        return ["offered " + " ".join(str(count) for count in counts + [len(found.left)])]

    def do_told(self, number):
        return [f"cell {address or 'root'} {verdict}" for address, _, verdict in self.receiver.verdicts(number)]

    def do_level(self, number, place):
        receiver = self.receiver
        boxes = [box for _, box, verdict in receiver.verdicts(number) if verdict in ("open", "in")]
        ways = [receiver.witness(number, address) for address, _, verdict in receiver.verdicts(number) if verdict == "in"]
        moment = receiver.question(number).moment
        return [f"level {level_above(place, boxes)} {level_below(place, moment, ways)}"]

    def do_save(self):
        return ["text " + save(self.receiver)]


class Story(Busy):
    """Deeds of all kinds for the receiver of a world; some of them are refused."""

    def __init__(self, seed):
        super().__init__(seed)
        self.twin = Twin(self.setting)
        self.here = {}

    def number(self):
        standing = self.twin.receiver.questions
        return self.chance.choice(standing) if standing and self.chance.random() < 0.9 else self.chance.randint(0, 9)

    def search(self):
        number = self.number()
        moments = (0, 1)
        if number in self.twin.receiver.questions:
            latest = self.twin.receiver.question(number).latest
            moments = tuple(sorted(self.chance.sample(range(latest + (2 if self.chance.random() < 0.1 else 1)), 2)))
        plan = Plan(moments, grain=self.chance.randint(4, 9), most=self.chance.randint(1, 6),
                    without=((), (self.chance.choice("abc"), "ant")))
        return "search", number, self.chance.choice((0, 5, 30, 80)), plan

    def deed(self):
        """The next deed."""
        now = self.twin.receiver.ledger.now
        what = self.chance.choice(["put"] * 4 + ["search"] * 4 + ["told"] * 2 + ["level"] * 2 + [
            "correct", "withdraw", "pin", "unpin", "floor", "readings", "ask", "end", "save"])
        if now < 6:
            what = "put"
        elif len(self.twin.receiver.questions) < 2 and what in ("end", "told"):
            what = "ask"
        if what == "search":
            return self.search()
        if what == "ask":
            question, here = self.a_question()
            self.here[self.twin.receiver.next_number] = here
            return what, question
        if what == "put":
            return what, self.a_reading()
        if what == "correct":
            return what, self.chance.randint(0, now), self.a_reading()
        if what == "level":
            return what, self.number(), tuple(self.chance.randint(-30, 30) for _ in range(self.setting.dims))
        if what in ("end", "told"):
            return what, self.number()
        return (what, self.chance.randint(0, now)) if what in ("withdraw", "unpin", "floor", "readings") else (what,)


class WholeRuns(unittest.TestCase):
    """Scripts with deeds of all kinds give, line by line, what the same calls of a receiver give."""

    def test_scripts(self):
        self.words = {}
        for seed in range(30):
            story = Story(seed + 500)
            setting = story.setting
            lines = [f"setting {setting.dims} {setting.speed} {setting.drift} {setting.per}"]
            due, ends = [], [0]
            while len(lines) < 70:
                deed = story.deed()
                lines.append(write_deed(deed))
                self.assertEqual(read_deed(lines[-1], setting), deed)
                results = story.twin.do(deed)
                due += results
                ends.append(len(due))
                for result in results:
                    self.words.setdefault(result.split(" ")[0], set()).add(result)
                self.check_world(story, deed, results)
            self.assertEqual(run(lines), due)
            # The results depend only on the lines, and the first lines give the first results.
            self.assertEqual(run(list(lines)), due)
            for many in story.chance.sample(range(len(lines)), 3):
                self.assertEqual(run(lines[:many + 1]), due[:ends[many]])
            self.check_resumed(story, lines, due, ends)
        for word in ("write", "fell", "none", "moment", "done", "floor", "reading", "question", "offered", "cell",
                     "level", "text"):
            self.assertIn(word, self.words)
        for result in ("UnknownQuestion", "UnknownMoment", "NotPinned", "InvalidPlan"):
            self.assertIn("refused " + result, self.words["refused"])
        offered = [[int(n) for n in result.split(" ")[1:]] for result in self.words["offered"]]
        for at in range(5):
            self.assertTrue(any(numbers[at] for numbers in offered), at)

    def check_resumed(self, story, lines, due, ends):
        """A run that is resumed from a saved text goes on alike, wherever it is cut."""
        cut = story.chance.randrange(len(lines) - 1)
        text = run(lines[:cut + 1] + ["save"])[-1].removeprefix("text ")
        resumed = Run.resumed(text)
        told = []
        for line in lines[cut + 1:]:
            deed = read_deed(line, story.setting)
            before = copy.deepcopy(deed)
            told += resumed.do(deed)
            self.assertEqual(deed, before)
        self.assertEqual(told, due[ends[cut]:])
        self.assertEqual(save(resumed.receiver), save(story.twin.receiver))

    def check_world(self, story, deed, results):
        """The world is in no cell that is out, and within the level."""
        receiver = story.twin.receiver
        if deed[0] == "level" and results[0].startswith("level"):
            above, below = [int(word) for word in results[0].split(" ")[1:]]
            here = story.here[deed[1]][:-1]
            self.assertTrue(root_at_most(squared(here, deed[2]), above))
            self.assertLessEqual(below, above)
        track = Track(story.setting)
        for number in receiver.questions:
            there = [box for _, box, verdict in receiver.verdicts(number) if verdict != "out"]
            self.assertTrue(any(holds(box, story.here[number]) for box in there))
            track.put(receiver.question(number).moment, tuple(there))
        # The way of the world stays on the track of what is not out.
        self.assertIs(track.possible(), True)
        for number in receiver.questions:
            moment = receiver.question(number).moment
            self.assertTrue(any(holds(box, story.here[number]) for box in track.alive(moment)))

    def test_what_was_loaded_in_the_middle(self):
        story = Story(7)
        for _ in range(40):
            story.twin.do(story.deed())
        text = save(story.twin.receiver)
        self.assertEqual(save(load(text)), text)

    def test_known_things_are_offered_from_the_first_new_place(self):
        """What is known already is counted, whatever it says; the next things are offered with their own places."""
        setting = a_setting(2, speed=0, drift=0, per=1)
        line = ((0, 8), (0, 0), (0, 0))
        one = Run(setting)
        one.do(("put", a_reading("a", 0, ("side", (1, 0)), low=3, high=9)))
        one.do(("ask", a_question(0, line, liars=0, share=2, earliest=-9, latest=9)))
        plain = Known(0, (line,), (("kept", 0),))
        one.receiver.learn(1, plain)
        plan = Plan((0, 3, 5), grain=1, most=9, without=((),))
        found = search(setting, one.receiver.question(1), one.receiver.there(), plan, 0)
        # The thing at 3 has place 2 in the search; with something else at place 0 it may be wrong.
        told = one.do(("search", 1, 0, plan))
        accepted = one.receiver.known(1)
        self.assertEqual(accepted[0], plain)
        self.assertEqual(told, [f"offered {len(accepted) - 1} 0 0 0 1"])
        self.assertTrue(all(thing in found.known[1:] for thing in accepted[1:]))

    def test_wrong_deeds_raise_nothing_else(self):
        chance = dice(1)
        one = Run(a_setting(2))
        for _ in range(100):
            deed = (chance.choice(("end", "told", "unpin", "readings")), chance.randint(0, 1000000))
            self.assertIsNone(raised(one.do, deed))


if __name__ == "__main__":
    unittest.main()
