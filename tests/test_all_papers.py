"""Promise 3: the papers of all parts of the package: word, parts, attributes, truth, equality."""

import itertools
import unittest

from ropesays.papers import Denial, Paper, fixed
from ropesays.rings import Chess, Led
from ropesays.rows import Barred, Filled
from ropesays.same import Same, Unlike

# Each class of papers, the names of its parts, and whether it is a denial.
PAPERS = (
    (Filled, ("marks",), False), (Barred, ("marks",), True), (Led, ("sets",), False), (Chess, (), True),
    (Same, (), False), (Unlike, ("row",), True),
)

VALUES = (
    (1, 0, 2), [1, 0, 2], [], (), [[0, 1], (2, [3])], ((0, 1), (2, (3,))), None, True, False, 0, 1, -1, 10 ** 40, 1.5,
    "", "marks", b"x", {}, {"a": [1]}, object, len, Paper("note", [1]), Same(), Chess(), Filled([1]),
)


def same_values(one, other):
    """Whether two values are equal and of one kind, all the way in."""
    if type(one) is not type(other):
        return False
    if isinstance(one, tuple):
        return len(one) == len(other) and all(map(same_values, one, other))
    return one == other


def made(kind, parts):
    """Papers with some parts: called by place, and by name."""
    names = next(told for each, told, _ in PAPERS if each is kind)
    return kind(*parts), kind(**dict(zip(names, parts)))


class TestPapers(unittest.TestCase):

    def all_parts(self, names):
        return itertools.product(VALUES, repeat=len(names))

    def test_word_parts_attributes(self):
        for kind, names, _ in PAPERS:
            for parts in self.all_parts(names):
                for paper in made(kind, parts):
                    self.assertIs(type(paper), kind)
                    self.assertEqual(paper.word, kind.__name__.lower())
                    self.assertTrue(same_values(paper.parts, fixed(parts)))
                    for name, part in zip(names, parts):
                        self.assertTrue(same_values(getattr(paper, name), fixed(part)))

    def test_truth(self):
        for kind, names, denial in PAPERS:
            for parts in self.all_parts(names):
                for paper in made(kind, parts):
                    self.assertIs(bool(paper), not denial)
                    self.assertIs(isinstance(paper, Denial), denial)
                    self.assertIsInstance(paper, Paper)

    def test_equality(self):
        papers = [(kind, parts, paper) for kind, names, _ in PAPERS for parts in self.all_parts(names)
                  for paper in made(kind, parts)]
        for (kind, parts, one), (other_kind, other_parts, other) in itertools.product(papers, repeat=2):
            wanted = kind is other_kind and fixed(parts) == fixed(other_parts)
            self.assertIs(one == other, wanted)
            self.assertIs(one != other, not wanted)

    def test_other_values(self):
        for kind, names, _ in PAPERS:
            for paper in made(kind, [[1, 0]] * len(names)):
                for value in (None, True, False, 0, paper.word, paper.parts, (paper.word, *paper.parts), kind, (1, 0),
                              Paper(paper.word, *paper.parts), Denial(paper.word, *paper.parts)):
                    self.assertIs(paper == value, False)
                    self.assertIs(value == paper, False)

    def test_parts_missing_and_too_many(self):
        for kind, names, _ in PAPERS:
            self.assertRaises(TypeError, kind, *[1] * (len(names) + 1))
            self.assertRaises(TypeError, kind, other=1)
            if names:
                self.assertRaises(TypeError, kind)

    def test_what_is_passed_stays(self):
        for kind, names, _ in PAPERS:
            parts = [[1, [2, {"a": [3]}]] for _ in names]
            paper = kind(*parts)
            self.assertEqual(parts, [[1, [2, {"a": [3]}]] for _ in names])
            for part in parts:
                part[1][1]["a"].append(4)
                part.append(5)
            self.assertEqual(paper.parts, tuple((1, (2, {"a": [3]})) for _ in names))

    def test_thirty_deep(self):
        for kind, names, _ in PAPERS:
            value = [1]
            for _ in range(29):
                value = [value]
            for paper in made(kind, [value] * len(names)):
                self.assertTrue(same_values(paper.parts, fixed([value] * len(names))))


if __name__ == "__main__":
    unittest.main()
