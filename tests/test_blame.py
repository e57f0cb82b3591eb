"""Steps of blame (points [22] to [26])."""

import copy
import unittest
from itertools import combinations

from sureplace.judge.blame import blames_right
from tests.helpers import dice


class OneStep(unittest.TestCase):
    def test_nobody_lies(self):
        self.assertIs(blames_right([("a", "b")], ((0, ()),), liars=0), True)

    def test_there_is_no_step(self):
        for used in ([], [()], [("a",)]):
            for liars in (0, 1):
                self.assertIs(blames_right(used, (), liars=liars), False)

    def test_a_tree_that_there_is_not(self):
        used = [("a",), None, ("b",)]
        for tree, told in ((0, True), (1, False), (2, True), (3, False), (-1, False), (-3, False), (10 ** 20, False),
                           (-10 ** 20, False)):
            self.assertIs(blames_right(used, ((tree, ()),), liars=0), told, tree)
        self.assertIs(blames_right([], ((0, ()),), liars=0), False)

    def test_next_steps_although_nobody_can_lie(self):
        used = [("a",), ("b",)]
        self.assertIs(blames_right(used, ((0, (1,)), (1, ())), liars=0), False)

    def test_an_empty_entry_rests_on_nobody(self):
        for liars in (0, 1, 3):
            self.assertIs(blames_right([("a",), ()], ((1, ()),), liars=liars), True, liars)
        self.assertIs(blames_right([("a",), ()], ((1, (1,)), (1, ())), liars=1), False)


class Suspects(unittest.TestCase):
    USED = [("a", "b"), ("c",), ("d", "e")]

    def test_each_suspect_has_its_next_step(self):
        steps = ((0, (1, 2)), (1, ()), (2, ()))
        self.assertIs(blames_right(self.USED, steps, liars=1), True)
        self.assertIs(blames_right(self.USED, steps, liars=0), False)
        self.assertIs(blames_right(self.USED, steps, liars=2), False)

    def test_too_few_and_too_many_next_steps(self):
        for following in ((), (1,), (1, 2, 2), (1, 2, 1, 2)):
            self.assertIs(blames_right(self.USED, ((0, following), (1, ()), (2, ())), liars=1), False, following)

    def test_a_next_step_stands_behind_and_is_a_step(self):
        for step in (0, -1, -2, 3, 10 ** 20, -10 ** 20):
            for following in ((step, 2), (1, step)):
                self.assertIs(blames_right(self.USED, ((0, following), (1, ()), (2, ())), liars=1), False, following)
        used = [("a",), ("b",), ("c",)]
        for step, told in ((0, False), (1, False), (2, True), (3, False)):
            steps = ((0, (1,)), (1, (step,)), (2, ()))
            self.assertIs(blames_right(used, steps, liars=2), told, step)

    def test_the_honest_are_no_suspects(self):
        steps = ((0, (1,)), (1, ()))
        self.assertIs(blames_right(self.USED, steps, liars=1), False)
        self.assertIs(blames_right(self.USED, steps, liars=1, honest=("a",)), True)
        self.assertIs(blames_right(self.USED, steps, liars=1, honest=("z", "b")), True)
        self.assertIs(blames_right(self.USED, ((0, ()),), liars=3, honest=("b", "a")), True)
        self.assertIs(blames_right(self.USED, ((0, (1,)), (1, ())), liars=1, honest=("b", "a")), False)

    def test_the_first_suspect_belongs_to_the_first_next_step(self):
        # Step 1 must not rest on "a", step 2 must not rest on "b".
        used = [("a", "b"), ("b",), ("a",)]
        self.assertIs(blames_right(used, ((0, (1, 2)), (1, ()), (2, ())), liars=1), True)
        self.assertIs(blames_right(used, ((0, (1, 2)), (2, ()), (1, ())), liars=1), False)
        self.assertIs(blames_right(used, ((0, (2, 1)), (2, ()), (1, ())), liars=1), True)
        # The honest ones in front have no next step.
        used = [("x", "a", "y", "b"), ("b",), ("a",)]
        self.assertIs(blames_right(used, ((0, (1, 2)), (1, ()), (2, ())), liars=1, honest=("y", "x")), True)
        self.assertIs(blames_right(used, ((0, (1, 2)), (2, ()), (1, ())), liars=1, honest=("y", "x")), False)


class Barred(unittest.TestCase):
    def test_nobody_is_barred_at_first(self):
        self.assertIs(blames_right([("a",)], ((0, ()),), liars=0), True)

    def test_a_liar_is_barred_in_all_steps_below(self):
        used = [("a",), ("b",), ("c",), ("c", "a"), ("b", "c")]
        for last, told in ((2, True), (0, False), (1, False), (3, False), (4, False)):
            steps = ((0, (1,)), (1, (2,)), (last, ()))
            self.assertIs(blames_right(used, steps, liars=2), told, last)
        self.assertIs(blames_right(used, ((0, (1,)), (0, ())), liars=1), False)

    def test_the_honest_are_never_barred(self):
        used = [("h", "a"), ("h", "b")]
        self.assertIs(blames_right(used, ((0, (1,)), (1, ())), liars=1, honest=("h",)), True)

    def test_an_entry_that_is_none_below(self):
        self.assertIs(blames_right([("a",), None, ("b",)], ((0, (1,)), (1, ())), liars=1), False)
        self.assertIs(blames_right([("a",), None, ("b",)], ((0, (1,)), (2, ())), liars=1), True)


class Marks(unittest.TestCase):
    def test_a_shared_step_bars_the_names_of_all_ways(self):
        for last, told in ((("c",), True), (("a",), False), (("b",), False), (("c", "b"), False), ((), True)):
            used = [("a", "b"), last]
            self.assertIs(blames_right(used, ((0, (1, 1)), (1, ())), liars=1), told, last)

    def test_a_shared_step_has_the_greatest_number_of_those_who_can_lie(self):
        used = [("a", "b"), ("c",), ("d",), ("e",)]
        # Two ways lead to step 2: by "a" and "c" with 0 left, and by "b" with 1 left.
        self.assertIs(blames_right(used, ((0, (1, 2)), (1, (2,)), (2, (3,)), (3, ())), liars=2), True)
        self.assertIs(blames_right(used, ((0, (1, 2)), (1, (2,)), (2, ()), (3, ())), liars=2), False)
        # The same the other way round: the suspects are swapped.
        self.assertIs(blames_right(used, ((0, (2, 1)), (1, (2,)), (2, (3,)), (3, ())), liars=2), True)
        for last in ("a", "b", "c", "d"):
            used = [("a", "b"), ("c",), ("d",), (last,)]
            self.assertIs(blames_right(used, ((0, (1, 2)), (1, (2,)), (2, (3,)), (3, ())), liars=2), False, last)

    def test_the_names_of_all_ways_go_on(self):
        for last, told in (("e", True), ("a", False), ("b", False), ("c", False), ("d", True)):
            used = [("a", "b"), ("c",), (last,)]
            self.assertIs(blames_right(used, ((0, (1, 1)), (1, (2,)), (2, ())), liars=2), told, last)

    def test_a_step_to_which_no_way_leads_may_be_anything(self):
        used = [("a",), ("b",), None]
        for step in ((2, ()), (-7, (0,)), (9, (9, -9)), (0, (1,)), (1, (1, 1, 1)), (10 ** 30, ())):
            self.assertIs(blames_right(used, ((0, (2,)), step, (1, ())), liars=1), True, step)
            self.assertIs(blames_right(used, ((0, (1,)), (1, ()), step), liars=1), True, step)
            self.assertIs(blames_right(used, (step, (0, (2,)), (1, ())), liars=1), False, step)

    def test_a_way_from_a_step_that_is_not_looked_at_does_not_lead(self):
        used = [("a",), ("b",)]
        self.assertIs(blames_right(used, ((0, (2,)), (1, (2,)), (1, ())), liars=1), True)

    def test_three_liars(self):
        used = [("a",), ("b",), ("c",), ("d",)]
        steps = ((0, (1,)), (1, (2,)), (2, (3,)), (3, ()))
        for liars in range(5):
            self.assertIs(blames_right(used, steps, liars=liars), liars == 3)

    def test_what_is_given_stays_as_it_is(self):
        given = [[("a", "b"), None, ("c",)], ((0, (1, 1)), (2, ())), ("h",)]
        before = copy.deepcopy(given)
        blames_right(given[0], given[1], honest=given[2], liars=1)
        self.assertEqual(given, before)


def ways(used, steps, honest, left, barred, number):
    """Every way to every step, as (step, how many can still lie, barred names)."""
    yield number, left, barred
    tree, following = steps[number]
    if left and 0 <= tree < len(used) and used[tree] is not None:
        for suspect, step in zip([name for name in used[tree] if name not in honest], following):
            if number < step < len(steps):
                yield from ways(used, steps, honest, left - 1, barred | {suspect}, step)


def right_by_ways(used, steps, honest, liars):
    """The same, by going all ways first. Ways beyond a wrong step do not matter: it is wrong anyhow."""
    marks = {}
    for number, left, barred in ways(used, steps, honest, liars, frozenset(), 0):
        old, names = marks.get(number, (left, frozenset()))
        marks[number] = (max(old, left), names | barred)
    for number, (left, barred) in marks.items():
        tree, following = steps[number]
        if not (0 <= tree < len(used) and used[tree] is not None) or barred & set(used[tree]):
            return False
        suspects = [name for name in used[tree] if name not in honest]
        if len(following) != (len(suspects) if left else 0):
            return False
        if not all(number < step < len(steps) for step in following):
            return False
    return True


def made_steps(chance, used, honest, path, left, steps):
    """Adds steps that are right, if there are any, and returns the number of the first one."""
    trees = [tree for tree, sources in enumerate(used) if sources is not None and not set(sources) & set(path)]
    number = len(steps)
    steps.append(None)
    tree = chance.choice(trees) if trees else 0
    following = []
    for suspect in [name for name in (used[tree] or ()) if left and name not in honest]:
        following.append(made_steps(chance, used, honest, path + (suspect,), left - 1, steps))
    steps[number] = (tree, tuple(following))
    return number


class ManySteps(unittest.TestCase):
    NAMES = "abcde"

    def a_case(self, chance):
        used = []
        for _ in range(chance.randint(1, 6)):
            sources = tuple(chance.sample(self.NAMES, chance.randint(0 if chance.random() < 0.1 else 1, 2)))
            used.append(None if chance.random() < 0.15 else sources)
        honest = tuple(name for name in self.NAMES if chance.random() < 0.15)
        liars, steps = chance.randint(0, 3), []
        made_steps(chance, used, honest, (), liars, steps)
        if chance.random() < 0.5:
            at = chance.randrange(len(steps))
            tree, following = steps[at]
            if chance.random() < 0.5:
                tree = chance.randint(-1, len(used))
            else:
                following = tuple(chance.randint(at, len(steps)) for _ in following)
            steps[at] = (tree, following)
        return used, tuple(steps), honest, liars

    def test_it_is_the_same_as_by_all_ways_and_an_entry_is_clean(self):
        chance, right, wrong = dice(41), 0, 0
        for _ in range(3000):
            used, steps, honest, liars = self.a_case(chance)
            told = blames_right(used, steps, honest=honest, liars=liars)
            self.assertIs(told, right_by_ways(used, steps, honest, liars), (used, steps, honest, liars))
            if not told:
                wrong += 1
                continue
            right += 1
            suspects = [name for name in self.NAMES if name not in honest]
            for many in range(liars + 1):
                for names in combinations(suspects, many):
                    clean = [sources for sources in used if sources is not None and not set(sources) & set(names)]
                    self.assertTrue(clean, (used, steps, honest, names))
        self.assertGreater(min(right, wrong), 300)


if __name__ == "__main__":
    unittest.main()
