"""Promises 2, 5, 7 and 10: how many crossings at most, and a tangle that ties a fair space."""

import itertools
import random
import unittest

from ropesays.errors import BadClock, BadNumber, BadSpace, Misfit
from ropesays.fairs import fair_spaces, is_fair
from ropesays.markings import markings
from ropesays.regions import rim_of
from ropesays.rims import beside, chess_rows, turned_space
from ropesays.spaces import Space, holds
from ropesays.tangles import Tangle
from ropesays.through import through
from ropesays.tied import tied, tied_most
from tests.knots import some_deeds
from tests.odd import CLOCKS, NO_CLOCKS, NO_INTEGERS
from tests.refusals import Refusals
from tests.soon import Soon
from tests.test_rims import told_swing
from tests.test_spaces import NO_SPACES


def some_fair(clock, ends, source):
    """A fair space by chance: rows that agree with all rows before are added, as long as there are any."""
    space = chess_rows(clock, ends)
    while space.depth < ends // 2 + 1:
        agreeing = beside(space).rows
        times = [source.randrange(clock) for _ in agreeing]
        row = [sum(k * each[at] for k, each in zip(times, agreeing)) % clock for at in range(ends)]
        if not holds(space, row):
            space = Space(clock, ends, [*space.rows, row])
    return space


class Tied(Soon, Refusals):

    def check(self, space):
        """What is tied lets through just the space, told from the deeds and from the markings."""
        with self.soon():
            told = tied(space)
        ends = space.size if space.size > 1 else 0
        self.assertIs(type(told), Tangle)
        self.assertEqual(told.ends, ends)
        self.assertEqual(through(told, space.clock), space)
        words = [word for word, _ in told.deeds]
        crossings = words.count("over") + words.count("under")
        self.assertLessEqual(crossings, tied_most(space.clock, ends))
        self.assertEqual((words.count("open"), words.count("join")), (0, ends // 2))
        self.assertLessEqual(words.count("turn"), ends // 2)
        # Overs alone, or unders alone, set a number: no more than half of the clock of them.
        runs = [len(list(run)) for deed, run in itertools.groupby(told.deeds) if deed[0] in ("over", "under")]
        self.assertLessEqual(max(runs, default=0), space.clock // 2)
        if crossings < 300:
            rim = rim_of(told)
            shown = [[marks[region] for region in rim] for marks in markings(told, space.clock).rows]
            self.assertEqual(Space(space.clock, space.size, shown), space)
        return told


class TestExamples(Refusals):

    def test_most(self):
        told = [tied_most(5, 4), tied_most(3, 8), tied_most(31, 16), tied_most(7, 2), tied_most(7, 0)]
        self.assertEqual(told, [10, 33, 2415, 0, 0])

    def test_tied(self):
        space = fair_spaces(5, 4)[1]
        box = tied(space)
        self.assertEqual([box.ends, through(box, 5) == space, [word for word, gap in box.deeds].count("open")],
                         [4, True, 0])
        self.assertEqual([len([1 for word, gap in box.deeds if word in ("over", "under")]) <= 10,
                          tied(Space(7, 1, [(1,)])) == Tangle(0, [])], [True, True])
        self.assertEqual([through(tied(each), 3) == each for each in fair_spaces(3, 6)], [True] * 40)

    def test_refusals(self):
        self.refused(Misfit, "space", tied, chess_rows(5, 4))
        self.refused(Misfit, "space", tied, Space(5, 3, []))


class TestMost(Refusals):

    def test_as_told(self):
        for clock in CLOCKS:
            self.assertEqual(tied_most(clock, 0), 0)
            for n in range(1, 9):
                told = tied_most(clock=clock, ends=2 * n)
                self.assertEqual(2 * told, (3 * n - 1) * (n - 1) * (clock - 1))
                self.assertIs(type(told), int)

    def test_refusals(self):
        for clock in NO_CLOCKS:
            self.refused(BadClock, "clock", tied_most, clock, 4)
        for ends in (-2, -1, 1, 3, 15, 17, 18, 10 ** 30, *NO_INTEGERS):
            self.refused(BadNumber, "ends", tied_most, 5, ends)
        self.refused(BadClock, "clock", tied_most, 4, 5)
        self.refused(BadClock, "clock", tied_most, ends=None, clock=None)


class TestTied(Tied):

    def test_no_ends_and_two(self):
        for clock in CLOCKS:
            self.assertEqual(self.check(Space(clock, 1, [(1,)])), Tangle(0, []))
            self.assertEqual(self.check(Space(clock, 2, [(1, 0), (0, 1)])).deeds[-1], ("join", 1))

    def test_all_of_some_rims(self):
        for clock, ends in ((3, 4), (3, 6), (5, 4), (5, 6), (7, 4), (7, 6), (13, 4), (31, 4)):
            for space in fair_spaces(clock, ends):
                self.check(space)

    def test_six_gaps_on_each_clock(self):
        source = random.Random(130)
        for clock in CLOCKS:
            for _ in range(12):
                self.check(some_fair(clock, 6, source))

    def test_to_ten_gaps_on_clocks_to_13(self):
        source = random.Random(131)
        for clock in (3, 5, 7, 11, 13):
            for ends in (8, 10):
                for _ in range(8):
                    self.check(some_fair(clock, ends, source))

    def test_more_gaps(self):
        source = random.Random(132)
        for clock, ends in ((5, 12), (3, 12), (3, 14), (3, 16), (3, 16), (3, 16)):
            self.check(some_fair(clock, ends, source))

    def test_the_greatest(self):
        source = random.Random(133)
        for clock in (13, 31):
            self.check(some_fair(clock, 16, source))

    def test_what_tangles_let_through(self):
        source = random.Random(134)
        for ends in range(0, 17, 2):
            for clock in (3, 5):
                for many in (0, 3, 20):
                    self.check(through(Tangle(ends, some_deeds(ends, many, source, 18)), clock))

    def test_turned(self):
        source = random.Random(135)
        for clock, ends in ((3, 8), (5, 6)):
            space = some_fair(clock, ends, source)
            for gap in range(ends):
                self.check(turned_space(space, gap))

    def test_again(self):
        source = random.Random(136)
        for clock, ends in ((3, 16), (5, 8), (31, 6), (7, 2)):
            space = some_fair(clock, ends, source)
            again = Space(clock, ends, [list(row) for row in reversed(space.rows)])
            self.assertEqual(tied(space), tied(again))
            self.assertEqual(tied(space=space), tied(space))


class TestRefusals(Refusals):

    def test_no_space(self):
        for value in NO_SPACES:
            self.refused(BadSpace, "space", tied, value)

    def test_of_no_rim(self):
        for size in (3, 5, 15, 17, 18, 24, 400):
            for rows in ([], [[1] * size]):
                self.refused(Misfit, "space", tied, Space(3, size, rows))

    def test_not_fair(self):
        source = random.Random(137)
        self.refused(Misfit, "space", tied, Space(5, 1, []))
        self.refused(Misfit, "space", tied, Space(5, 2, [(1, 1)]))
        for ends in range(4, 17, 2):
            space = some_fair(5, ends, source)
            units = [[int(at == lead) for at in range(ends)] for lead in range(ends)]
            # Two rows that do not agree, one of them of the space; in the place of another row, so that the depth fits.
            one, other = next((row, each) for row in units for each in space.rows if told_swing(5, row, each))
            rest = [row for row in space.rows if row != other]
            self.assertEqual(Space(5, ends, [one, other, *rest[1:]]).depth, space.depth)
            for rows in (chess_rows(5, ends).rows, [], space.rows[1:], space.rows[:-1], units, [*space.rows, one],
                         [one, other, *rest[1:]]):
                wrong = Space(5, ends, rows)
                self.assertIs(is_fair(wrong), False)
                self.refused(Misfit, "space", tied, wrong)


if __name__ == "__main__":
    unittest.main()
