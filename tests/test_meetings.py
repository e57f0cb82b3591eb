"""Who lies: steps of blame that are made, meetings, least sets (points [36] to [43] and [46])."""

import copy
import types
import unittest
from itertools import combinations

from sureplace.judge.blame import blames_right
from sureplace.liars.meetings import fewest, least_sets, make_steps, meetings, surely
from tests.helpers import dice

NAMES = ("a", "b", "c", "d", "e")


def steps_by_hand(used, honest, path, left, many):
    """The steps behind so many others, or the path that ends the search, as point [39] tells it."""
    clean = [tree for tree, sources in enumerate(used) if sources is not None and not set(sources) & set(path)]
    if not clean:
        return "liars", path
    if left == 0:
        return "steps", [(clean[0], ())]
    steps, following = [None], []
    for name in [name for name in used[clean[0]] if name not in honest]:
        following.append(many + len(steps))
        word, made = steps_by_hand(used, honest, path + (name,), left - 1, many + len(steps))
        if word == "liars":
            return word, made
        steps += made
    steps[0] = (clean[0], tuple(following))
    return "steps", steps


def meetings_by_hand(used, honest, path, left):
    clean = [sources for sources in used if sources is not None and not set(sources) & set(path)]
    if not clean:
        return [path]
    found = []
    for name in clean[0] if left else ():
        if name not in honest:
            found += meetings_by_hand(used, honest, path + (name,), left - 1)
    return found


def sets_by_hand(used, honest, liars):
    order = []
    for sources in used:
        order += [name for name in sources or () if name not in order]
    found = []
    for path in meetings_by_hand(used, honest, (), liars):
        names = tuple(sorted(path, key=order.index))
        if names not in found:
            found.append(names)
    return [names for names in found if not any(set(other) < set(names) for other in found)]


def all_liars(used, honest, liars):
    """All sets of names that can be all the liars, by trying all of them."""
    names = [name for name in NAMES if name not in honest]
    return [set(some) for many in range(liars + 1) for some in combinations(names, many)
            if all(sources is None or set(sources) & set(some) for sources in used)]


def some_used(chance):
    used = []
    for _ in range(chance.randint(0, 6)):
        many = 0 if chance.random() < 0.05 else chance.randint(1, 3)
        used.append(None if chance.random() < 0.15 else tuple(chance.sample(NAMES, many)))
    honest = tuple(name for name in NAMES if chance.random() < 0.15)
    return used, honest, chance.randint(0, 4)


class Examples(unittest.TestCase):
    def test_the_example_of_the_document(self):
        used = [("a", "b"), ("b", "c")]
        self.assertEqual(make_steps(used, liars=1), ("liars", ("b",)))
        self.assertEqual(least_sets(used, liars=1), [("b",)])
        self.assertEqual(fewest(least_sets(used, liars=1)), 1)
        self.assertEqual(surely(least_sets(used, liars=1)), ("b",))
        self.assertEqual(make_steps(used, liars=0), ("steps", ((0, ()),)))

    def test_the_first_suspect_alone_goes_wrong(self):
        used = [("a", "b"), ("b", "c"), ("c", "d")]
        self.assertEqual(make_steps(used, liars=1), ("steps", ((0, (1, 2)), (1, ()), (2, ()))))
        self.assertEqual(make_steps(used, liars=2), ("liars", ("a", "c")))
        self.assertEqual(list(meetings(used, liars=2)), [("a", "c"), ("b", "c"), ("b", "d")])
        self.assertEqual(least_sets(used, liars=2), [("a", "c"), ("b", "c"), ("b", "d")])
        self.assertEqual(surely(least_sets(used, liars=2)), ())
        self.assertEqual(fewest(least_sets(used, liars=2)), 2)


class MakeSteps(unittest.TestCase):
    def test_no_trees(self):
        for used in ([], [None], [None, None]):
            for liars in (0, 1, 3):
                self.assertEqual(make_steps(used, liars=liars), ("liars", ()), (used, liars))

    def test_a_tree_that_rests_on_nobody(self):
        for liars in (0, 1, 3):
            self.assertEqual(make_steps([()], liars=liars), ("steps", ((0, ()),)))
            self.assertEqual(make_steps([None, ()], liars=liars), ("steps", ((1, ()),)))
        # The first clean tree is taken, not the best one.
        self.assertEqual(make_steps([("a",), ()], liars=1), ("steps", ((0, (1,)), (1, ()))))

    def test_the_first_clean_tree_is_taken(self):
        used = [None, ("a",), ("a", "b"), None, ("c",)]
        self.assertEqual(make_steps(used, liars=0), ("steps", ((1, ()),)))
        self.assertEqual(make_steps(used, liars=1), ("steps", ((1, (1,)), (4, ()))))
        self.assertEqual(make_steps(used, liars=2), ("liars", ("a", "c")))

    def test_one_block_after_the_other(self):
        used = [("a", "b"), ("a", "c"), ("b", "d"), ("e",), ("c", "d")]
        self.assertEqual(make_steps(used, liars=2), ("steps", (
            (0, (1, 4)),
            (2, (2, 3)), (3, ()), (3, ()),
            (1, (5, 6)), (3, ()), (3, ()))))

    def test_the_honest_are_no_suspects(self):
        used = [("a", "b"), ("b", "c")]
        self.assertEqual(make_steps(used, honest=("b",), liars=1), ("steps", ((0, (1,)), (1, ()))))
        self.assertEqual(make_steps(used, honest=("a", "b"), liars=1), ("steps", ((0, ()),)))
        self.assertEqual(make_steps(used, honest=("a",), liars=1), ("liars", ("b",)))
        self.assertEqual(make_steps(used, honest=("z",), liars=1), ("liars", ("b",)))
        self.assertEqual(make_steps([("h",)], honest=("h",), liars=0), ("steps", ((0, ()),)))

    def test_many_liars(self):
        used = [(f"n{k}",) for k in range(3000)]
        word, names = make_steps(used, liars=5000)
        self.assertEqual((word, names), ("liars", tuple(f"n{k}" for k in range(3000))))
        word, steps = make_steps(used, liars=2999)
        self.assertEqual((word, len(steps)), ("steps", 3000))
        self.assertEqual(steps[:2] + steps[-2:], ((0, (1,)), (1, (2,)), (2998, (2999,)), (2999, ())))


class Meetings(unittest.TestCase):
    def test_it_is_a_generator(self):
        self.assertIsInstance(meetings([("a",)], liars=1), types.GeneratorType)
        self.assertEqual(next(meetings([("a", "b")] * 50, liars=1)), ("a",))

    def test_no_trees(self):
        for used in ([], [None]):
            self.assertEqual(list(meetings(used, liars=0)), [()])
            self.assertEqual(list(meetings(used, liars=2)), [()])
            self.assertEqual(least_sets(used, liars=2), [()])

    def test_there_are_none(self):
        for used, liars in (([()], 3), ([("a",)], 0), ([("a",), ("b",)], 1)):
            self.assertEqual(list(meetings(used, liars=liars)), [])
            self.assertEqual(least_sets(used, liars=liars), [])
        self.assertEqual(list(meetings([("a", "h")], honest=("h", "a"), liars=1)), [])

    def test_the_same_set_can_come_several_times(self):
        used = [("a", "b"), ("b", "a")]
        self.assertEqual(list(meetings(used, liars=2)), [("a",), ("b",)])
        used = [("a", "b"), ("c", "b", "a"), ("c", "a")]
        self.assertEqual(list(meetings(used, liars=2)), [("a",), ("b", "c"), ("b", "a")])
        used = [("a", "b"), ("b", "c"), ("c", "a")]
        self.assertEqual(list(meetings(used, liars=2)), [("a", "b"), ("a", "c"), ("b", "c"), ("b", "a")])
        self.assertEqual(least_sets(used, liars=2), [("a", "b"), ("a", "c"), ("b", "c")])


class LeastSets(unittest.TestCase):
    def test_names_stand_in_the_order_in_which_they_come_first(self):
        used = [("b", "c"), None, ("a", "c"), ("a",)]
        self.assertEqual(list(meetings(used, liars=2)), [("b", "a"), ("c", "a")])
        self.assertEqual(least_sets(used, liars=2), [("b", "a"), ("c", "a")])
        self.assertEqual(least_sets([("d", "a")] + used, honest=("d",), liars=2), [("a", "b"), ("a", "c")])

    def test_without_those_that_contain_a_smaller_one(self):
        used = [("a", "b"), ("b", "c")]
        self.assertEqual(list(meetings(used, liars=2)), [("a", "b"), ("a", "c"), ("b",)])
        self.assertEqual(least_sets(used, liars=2), [("a", "c"), ("b",)])

    def test_fewest_and_surely(self):
        for sets, few, names in (([], None, ()), ([()], 0, ()), ([("a",)], 1, ("a",)), ([("b", "a")], 2, ("b", "a")),
                                 ([("b", "c"), ("a",)], 1, ()), ([("c", "b", "a"), ("a", "c")], 2, ("c", "a")),
                                 ([("a", "b"), ("b", "c"), ("b", "d")], 2, ("b",))):
            self.assertEqual(fewest(sets), few, sets)
            self.assertEqual(surely(sets), names, sets)
            self.assertIs(type(surely(sets)), tuple)

    def test_many_sets(self):
        used = [tuple(f"{row}{k}" for k in range(12)) for row in "abc"] + [("a0", "b0")]
        found = least_sets(used, liars=3)
        self.assertEqual(len(found), 12 * 12 * 12 - 11 * 11 * 12)
        used = [tuple(f"{row}{k}" for k in range(16)) for row in "abc"] * 10
        self.assertEqual(len(least_sets(used, liars=3)), 16 * 16 * 16)


class AnyCases(unittest.TestCase):
    def test_they_are_the_same_as_by_hand(self):
        chance = dice(71)
        for _ in range(3000):
            used, honest, liars = some_used(chance)
            before = copy.deepcopy(used)
            word, made = steps_by_hand(used, honest, (), liars, 0)
            self.assertEqual(make_steps(used, honest=honest, liars=liars), (word, tuple(made)), (used, honest, liars))
            self.assertEqual(list(meetings(used, honest=honest, liars=liars)),
                             meetings_by_hand(used, honest, (), liars), (used, honest, liars))
            self.assertEqual(least_sets(used, honest=honest, liars=liars), sets_by_hand(used, honest, liars))
            self.assertEqual(used, before)

    def test_what_point_43_promises(self):
        chance, made, not_made = dice(72), 0, 0
        for _ in range(3000):
            used, honest, liars = some_used(chance)
            can = all_liars(used, honest, liars)
            word, told = make_steps(used, honest=honest, liars=liars)
            self.assertEqual(word, "liars" if can else "steps", (used, honest, liars))
            if can:
                not_made += 1
                self.assertEqual(len(told), len(set(told)))
                self.assertIn(set(told), can)
            else:
                made += 1
                self.assertIs(blames_right(used, told, honest=honest, liars=liars), True)
            sets = [set(names) for names in least_sets(used, honest=honest, liars=liars)]
            least = [names for names in can if not any(other < names for other in can)]
            self.assertEqual(len(sets), len(least))
            self.assertTrue(all(names in least for names in sets))
        self.assertGreater(min(made, not_made), 500)


if __name__ == "__main__":
    unittest.main()
