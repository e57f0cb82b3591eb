"""Papers and witnesses as texts (point [115])."""

import unittest

from sureplace.errors import InvalidText
from sureplace.judge.papers import Known, Paper
from sureplace.tools.letters import read_a_witness, read_paper, write_paper, write_witness
from sureplace.witness.ways import Witness
from tests.some_papers import Found

FAR = 10 ** 18
MANY = 100000
LINE = ((0, 8), (0, 0), (0, 0))


class Case(unittest.TestCase):
    def place_of(self, read, text):
        """The place at which the text goes wrong; None if it can be read."""
        try:
            read(text)
        except InvalidText as error:
            return error.place
        return None

    def wrong(self, read, *marked):
        """Each text goes wrong at the word behind the mark; a mark alone at the end stands for a missing word."""
        for text in marked:
            words = text.split(" ")
            place = [word[:1] for word in words].index("!")
            words[place] = words[place][1:]
            if place == len(words) - 1 and words[place] == "":
                words.pop()
            self.assertEqual(self.place_of(read, " ".join(words)), place, text[:200])

    def all_cut(self, read, text):
        """The text is cut at each word, goes on behind its end, or has a word that fits nowhere."""
        words = text.split(" ")
        for many in range(1, len(words)):
            self.assertEqual(self.place_of(read, " ".join(words[:many])), many)
            for word in ("", "No"):
                self.assertEqual(self.place_of(read, " ".join(words[:many] + [word] + words[many + 1:])), many)
        for more in ("0", "", "x"):
            self.assertEqual(self.place_of(read, f"{text} {more}"), len(words))


class Papers(Case):
    def both(self, paper, dims, text):
        self.assertEqual(write_paper(paper, dims), text)
        told = read_paper(text)
        self.assertEqual(told, paper)
        self.assertEqual([type(part) for part in (told.known, told.trees, told.steps)], [tuple] * 3)

    def test_examples(self):
        self.both(Paper((), (), ()), 2, "paper 2 0 0 0")
        self.both(Paper((), (), ()), 3, "paper 3 0 0 0")
        thing = Known(-5, (LINE,), (("cut", 0, -4), ("reading", 7), ("kept", 0)))
        trees = ((("known", 0),), (("reading", 3),), ())
        self.both(Paper((thing,), trees, ((0, (1, 2)), (1, ()))), 2,
                  "paper 2 1 -5 1 0 8 0 0 0 0 3 cut 0 -4 reading 7 kept 0"
                  " 3 1 known 0 1 reading 3 0 2 0 2 1 2 1 0")
        self.both(Paper((Known(0, (LINE + ((-1, 1),),), ()),), (), ()), 3, "paper 3 1 0 1 0 8 0 0 0 0 -1 1 0 0 0")

    def test_whatever_it_says(self):
        """A paper that no judge accepts is read as it was written, too."""
        thing = Known(FAR, (((-FAR, FAR), (0, 0), (FAR, FAR)),), (("cut", FAR, -FAR), ("known", FAR)))
        paper = Paper((thing,) * 130, ((("kept", FAR),),), ((FAR, (FAR, 0)),))
        self.assertEqual(read_paper(write_paper(paper, 2)), paper)

    def test_each_word(self):
        self.all_cut(read_paper, "paper 2 1 -5 1 0 8 0 0 0 0 3 cut 0 -4 reading 7 kept 0"
                                 " 3 1 known 0 1 reading 3 0 2 0 2 1 2 1 0")
        for text in ("", " ", "Paper 2 0 0 0", "witness 2 0 0", " paper 2 0 0 0"):
            self.assertEqual(self.place_of(read_paper, text), 0, text)

    def test_bounds(self):
        self.wrong(read_paper, "paper !1 0 0 0", "paper !4 0 0 0", "paper !-2 0 0 0", "paper !02 0 0 0",
                   "paper 2 !-1", "paper 2 !100001", "paper 2 0 !100001", "paper 2 0 0 !100001",
                   f"paper 2 1 !{FAR + 1} 0 0 0 0", "paper 2 1 0 !100001", "paper 2 1 0 0 !100001",
                   "paper 2 1 0 1 8 0 0 0 0 0 !0 0 0", "paper 2 1 0 1 0 8 0 0 1 0 !", f"paper 2 1 0 1 0 !{FAR + 1}",
                   "paper 2 0 1 1 reading !-1 0", "paper 2 0 1 1 known !-1 0", "paper 2 0 1 1 kept !-1 0",
                   "paper 2 0 1 1 cut !-1 0 0", f"paper 2 0 1 1 cut 0 !{FAR + 1} 0", "paper 2 0 1 1 !other 1 0",
                   "paper 2 0 0 1 !-1 0", "paper 2 0 0 1 0 !100001", "paper 2 0 0 1 0 1 !-1",
                   f"paper 2 0 0 1 !{FAR + 1} 0")

    def test_long_lists(self):
        paper = Paper((), ((("kept", 0),) * MANY,), ((0, (7,) * MANY),))
        self.assertEqual(read_paper(write_paper(paper, 2)), paper)
        paper = Paper((Known(0, (LINE,) * MANY, ()),), ((),) * MANY, ((0, ()),) * MANY)
        self.assertEqual(read_paper(write_paper(paper, 2)), paper)

    def test_papers_that_were_found(self):
        for seed in range(30):
            found = Found(seed)
            for _, paper in found.papers:
                dims = found.setting.dims
                text = write_paper(paper, dims)
                self.assertEqual(read_paper(text), paper)
                self.assertEqual(write_paper(read_paper(text), dims), text)


class Witnesses(Case):
    def both(self, witness, dims, text):
        self.assertEqual(write_witness(witness, dims), text)
        told = read_a_witness(text)
        self.assertEqual(told, witness)
        self.assertEqual([type(part) for part in (told.liars, told.points)], [tuple] * 2)

    def test_examples(self):
        self.both(Witness((), ()), 2, "witness 2 0 0")
        self.both(Witness(("a", "b-_9"), ((0, 1, -2, 3), (5, 0, 0, 0))), 2, "witness 2 2 a b-_9 2 0 1 -2 3 5 0 0 0")
        self.both(Witness(("a", "a"), ((FAR, 1, -2, 3, -FAR),)), 3, f"witness 3 2 a a 1 {FAR} 1 -2 3 {-FAR}")

    def test_each_word(self):
        self.all_cut(read_a_witness, "witness 2 2 a b-_9 2 0 1 -2 3 5 0 0 0")
        for text in ("", "paper 2 0 0 0", "witnesses 2 0 0"):
            self.assertEqual(self.place_of(read_a_witness, text), 0, text)

    def test_bounds(self):
        self.wrong(read_a_witness, "witness !1 0 0", "witness !4 0 0", "witness 2 !-1 0", "witness 2 !100001 0",
                   "witness 2 0 !100001", "witness 2 0 !-1", "witness 2 1 !A 0", f"witness 2 1 !{'a' * 65} 0",
                   f"witness 2 0 1 !{FAR + 1} 0 0 0", f"witness 2 0 1 0 0 0 !{-FAR - 1}", "witness 3 0 1 0 0 0 0 !",
                   "witness 2 0 1 0 0 0 0 !0")

    def test_long_lists(self):
        witness = Witness(("a",) * MANY, ((0, 0, 0, 0),) * MANY)
        self.assertEqual(read_a_witness(write_witness(witness, 2)), witness)

    def test_witnesses_that_were_found(self):
        many = 0
        for seed in range(30):
            found = Found(seed)
            for told in found.found:
                if told.verdict == "in":
                    text = write_witness(told.witness, found.setting.dims)
                    self.assertEqual(read_a_witness(text), told.witness)
                    many += 1
        self.assertGreater(many, 50)


if __name__ == "__main__":
    unittest.main()
