"""What is shown of a single source (points [89] and [90])."""

import copy
import unittest

from sureplace.judge.papers import Known, Paper, judge_known
from sureplace.levels.sources import Standing, standing
from sureplace.liars.makers import make_paper
from sureplace.search.covers import know
from sureplace.search.plans import Plan
from sureplace.witness.ways import Witness
from tests.helpers import a_question, a_setting, dice, says_x
from tests.worlds import SOURCES, a_plain_reading, a_true_reading, a_world, some_liars

STILL = a_setting(speed=0, drift=0, per=1)
LINE = ((0, 8), (0, 0), (0, 0))
ONE = ((0, ()),)
FIELDS = ("must", "cannot", "lies", "tells")


def at(x, *liars):
    return Witness(liars, ((0, x, 0, 0),))


def parts(place, first, second):
    """A tree: the line is cut at the place, and each part is excluded by a reading."""
    return (("cut", 0, place), ("reading", first), ("reading", second))


class Case(unittest.TestCase):
    # The place is from 6 to 8 by a, and from 0 to 2 by b and by c.
    READINGS = [(1, says_x("a", 6, 8)), (2, says_x("b", 0, 2)), (3, says_x("c", 0, 2)), (4, says_x("d", 0, 8))]

    def standing(self, source, *, liars=1, readings=None, **shown):
        question = a_question(0, LINE, liars=liars, share=1, earliest=-9, latest=9)
        told = standing(STILL, question, self.READINGS if readings is None else readings, source, **shown)
        self.assertIsInstance(told, Standing)
        for field in FIELDS:
            self.assertIs(type(getattr(told, field)), bool, field)
        return told

    def only(self, field, worth, *arguments, **more):
        """The field is as told, and the others are False."""
        told = self.standing(*arguments, **more)
        due = {name: name == field and worth for name in FIELDS}
        self.assertEqual(told, Standing(due["must"], due["cannot"], due["lies"], due["tells"]))


class Fields(unittest.TestCase):
    def test_fields(self):
        told = Standing(True, False, False, True)
        self.assertEqual((told.must, told.cannot, told.lies, told.tells), (True, False, False, True))
        self.assertEqual(told, Standing(must=True, cannot=False, lies=False, tells=True))
        for other in (Standing(False, False, False, True), Standing(True, True, False, True),
                      Standing(True, False, True, True), Standing(True, False, False, False), None, True):
            self.assertIs(told == other, False)
            self.assertIs(told != other, True)


class Given(Case):
    def test_nothing(self):
        self.only("must", False, "a")
        self.only("must", False, "nobody", must=None, cannot=None, lies=None, tells=None)

    def test_must(self):
        # b and c cannot both lie, so a does; only with a as the only honest name is that a contradiction.
        paper = Paper((), (parts(4, 1, 2), parts(4, 1, 3)), ((0, (1,)), (1, ())))
        self.only("must", True, "a", must=paper)
        for source in ("b", "c", "d", "nobody"):
            self.only("must", False, source, must=paper)
        self.only("must", False, "a", must=paper, liars=2)
        # The paper has steps for one liar.
        self.only("must", False, "a", must=paper, liars=0)
        self.only("must", True, "a", must=Paper((), paper.trees, ONE), liars=0)
        self.only("must", False, "a", must=paper, readings=self.READINGS[:2])

    def test_must_is_for_the_root(self):
        # It shows that nobody was in a part of the root.
        paper = Paper((), ((("reading", 1),),), ONE)
        self.only("must", False, "a", must=paper)
        self.only("must", True, "a", must=paper, readings=[(1, says_x("a", 9, 9))])

    def test_must_with_known_things(self):
        thing = Known(0, (), parts(4, 1, 2))
        paper = Paper((thing,), ((("known", 0),), parts(4, 1, 3)), ((0, (1,)), (1, ())))
        self.only("must", True, "a", must=paper)
        self.only("must", False, "b", must=paper)

    def test_cannot(self):
        # Were d the liar, then nobody else: but a and b contradict each other.
        paper = Paper((), (parts(4, 1, 2),), ONE)
        self.only("cannot", True, "d", cannot=paper)
        self.only("cannot", True, "c", cannot=paper)
        self.only("cannot", True, "nobody", cannot=paper)
        # Readings of the source itself are not used.
        for source in ("a", "b"):
            self.only("cannot", False, source, cannot=paper)

    def test_cannot_is_for_one_liar_less(self):
        one = Paper((), (parts(4, 1, 2),), ONE)
        two = Paper((), (parts(4, 1, 2), parts(4, 1, 3)), ((0, (1, 2)), (1, ()), (1, ())))
        self.only("cannot", False, "d", cannot=one, liars=0)
        self.only("cannot", False, "d", cannot=one, liars=2)
        self.only("cannot", False, "d", cannot=two, liars=2)
        readings = self.READINGS + [(5, says_x("e", 6, 8))]
        pairs = Paper((), (parts(4, 1, 2), parts(4, 5, 3)), ((0, (1, 2)), (1, ()), (1, ())))
        self.only("cannot", True, "d", cannot=pairs, liars=2, readings=readings)
        self.only("cannot", False, "d", cannot=pairs, liars=1, readings=readings)
        self.only("cannot", False, "d", cannot=pairs, liars=3, readings=readings)

    def test_cannot_has_nobody_honest(self):
        # The step would be right if d or a were honest.
        readings = [(1, says_x("a", 9, 9)), (2, says_x("d", 9, 9))]
        paper = Paper((), ((("reading", 1),),), ONE)
        self.only("cannot", True, "d", cannot=paper, readings=readings)
        self.only("cannot", False, "d", cannot=paper, readings=readings, liars=2)

    def test_lies_and_tells(self):
        # A witness can be beyond a bound by the margin, which is 6.
        readings = [(1, says_x("a", 15, 30)), (2, says_x("b", 0, 8)), (3, says_x("c", 0, 8))]
        for witness, liars, told in ((at(7, "a"), 1, True), (at(7, "a", "b"), 2, True), (at(1, "a", "a"), 2, True),
                                     (at(1, "a", "a"), 1, False), (at(7, "a"), 0, False), (at(8, "b"), 2, False),
                                     (at(9, "a", "c"), 2, False), (Witness(("a",), ()), 2, False)):
            for source in ("a", "b", "c", "d", "nobody"):
                among = source in witness.liars
                self.only("lies", told and among, source, lies=witness, liars=liars, readings=readings)
                self.only("tells", told and not among, source, tells=witness, liars=liars, readings=readings)

    def test_all_at_once(self):
        told = self.standing("a", must=Paper((), (parts(4, 1, 2), parts(4, 1, 3)), ((0, (1,)), (1, ()))),
                             cannot=Paper((), (parts(4, 1, 2),), ONE), lies=at(1, "a"), tells=at(1, "a"))
        self.assertEqual(told, Standing(True, False, True, False))
        told = self.standing("d", must=None, cannot=Paper((), (parts(4, 1, 2),), ONE), lies=at(1, "a"),
                             tells=at(1, "a"))
        self.assertEqual(told, Standing(False, True, False, True))

    def test_what_is_given_stays_as_it_is(self):
        readings = list(self.READINGS)
        paper = Paper((), (parts(4, 1, 2),), ONE)
        before = copy.deepcopy((readings, paper))
        self.standing("c", readings=readings, must=paper, cannot=paper, lies=at(1, "a"), tells=at(1, "a"))
        self.assertEqual((readings, paper), before)


class Worlds(unittest.TestCase):
    """Point [90]: what is shown of sources is true of the liars of a world."""

    def trees(self, setting, question, readings):
        """Trees of the root that rest on few sources each."""
        pairs = [(one, two) for one in SOURCES for two in SOURCES if one < two]
        found = []
        for names in pairs:
            plan = Plan((question.moment,), grain=4, most=1, without=(tuple(set(SOURCES) - set(names)),))
            found += [thing.tree for thing in know(setting, question, readings, plan)[0] if thing.cover == ()]
        return found

    def test_worlds_with_liars(self):
        counts = {"must": 0, "cannot": 0}
        for seed in range(120):
            chance = dice(seed)
            setting = a_setting(2, speed=chance.choice((0, 1)), drift=0, per=1)
            world = a_world(chance, setting, 5)
            liars = some_liars(chance, 1)
            readings = []
            for number in range(16):
                reading = a_true_reading(chance, world, liars)
                if reading.source not in liars:
                    reading = a_plain_reading(chance, world, reading.source)
                readings.append((number, reading))
            place, offset = world[2]
            root = tuple((n - chance.randint(5, 20), n + chance.randint(5, 20)) for n in place) + ((offset, offset),)
            question = a_question(2, root, liars=1, share=1, earliest=0, latest=5)
            trees = self.trees(setting, question, readings)
            for source in SOURCES:
                self.check(setting, question, readings, trees, source, liars, counts)
        self.assertGreater(counts["must"], 10, counts)
        self.assertGreater(counts["cannot"], 40, counts)

    def check(self, setting, question, readings, trees, source, liars, counts):
        must = make_paper(setting, question, readings, (), trees, question.root, honest=(source,))
        fewer = a_question(question.moment, question.root, liars=0, share=1, earliest=0, latest=5)
        others = [pair for pair in readings if pair[1].source != source]
        cannot = make_paper(setting, fewer, others, (), trees, question.root)
        if isinstance(must, Paper):
            told = standing(setting, question, readings, source, must=must, cannot=must)
            self.assertIs(told.must, True)
            self.assertIn(source, liars)
            counts["must"] += 1
        if isinstance(cannot, Paper):
            told = standing(setting, question, readings, source, cannot=cannot, must=cannot)
            self.assertEqual((told.cannot, told.must), (True, False))
            self.assertNotIn(source, liars)
            counts["cannot"] += 1

    def test_the_known_things_of_a_paper_are_judged(self):
        question = a_question(0, LINE, liars=1, share=1)
        readings = [(1, says_x("a", 9, 9)), (2, says_x("b", 0, 8))]
        wrong = Paper((Known(0, (), (("reading", 2),)),), ((("reading", 1),),), ONE)
        self.assertIsNone(judge_known(STILL, question, readings, wrong.known))
        self.assertEqual(standing(STILL, question, readings, "b", cannot=wrong, must=wrong),
                         Standing(False, False, False, False))


if __name__ == "__main__":
    unittest.main()
