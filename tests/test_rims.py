"""Promises 2, 4 and 5: swings, chess rows, what agrees with a space, spaces turned."""

import itertools
import random
import unittest

from ropesays.errors import BadClock, BadNumber, BadRow, BadSpace, Misfit
from ropesays.rims import beside, chess_rows, is_chess, swing, turned_space
from ropesays.spaces import Space, holds, rows_in
from tests.odd import CLOCKS, NO_CLOCKS, NO_INTEGERS, NO_LISTS
from tests.refusals import Refusals
from tests.test_spaces import NO_SPACES, all_rows

EVEN = (2, 4, 6, 8, 10, 12, 14, 16)

# No rows of the gaps of a rim, on the clock of 5.
NO_RIM_ROWS = (
    (), [], (1,), (1, 2, 1), [0] * 15, [0] * 17, [0] * 18, [0] * 400, (5, 0), (0, -1), (0, 10 ** 40), [[1, 0]],
    *[(0, value) for value in NO_INTEGERS], *NO_LISTS,
)


def told_swing(clock, x, y):
    """The swing as the document tells it."""
    size = len(x)
    return sum(x[k] * y[(k + 1) % size] - x[(k + 1) % size] * y[k] for k in range(size)) % clock


def some_rows(clock, size, many, source):
    return [[source.randrange(clock) for _ in range(size)] for _ in range(many)]


class TestExamples(Refusals):

    def test_swings(self):
        told = [swing(5, (1, 0, 0, 0), (0, 1, 0, 0)), swing(5, [0, 1, 0, 0], (1, 0, 0, 0)),
                swing(5, (1, 0, 0, 0), (0, 0, 0, 2)), swing(7, (3, 1), (2, 6)), swing(5, (4, 2, 4, 2), (0, 1, 3, 3))]
        self.assertEqual(told, [1, 4, 3, 0, 0])

    def test_chess(self):
        told = [is_chess(5, (4, 2, 4, 2)), is_chess(5, (4, 2, 4, 1)), is_chess(3, [1, 2]), chess_rows(5, 4).rows]
        self.assertEqual(told, [True, False, True, ((1, 0, 1, 0), (0, 1, 0, 1))])

    def test_beside(self):
        told = [beside(Space(5, 4, [(1, 0, 0, 0)])).rows, beside(chess_rows(3, 6)).depth,
                beside(Space(7, 2, [])).depth]
        self.assertEqual(told, [((1, 0, 0, 0), (0, 1, 0, 1), (0, 0, 1, 0)), 6, 2])

    def test_turned(self):
        told = [turned_space(Space(5, 3, [(1, 2, 3)]), 1).rows, turned_space(Space(3, 1, [(1,)]), 0).rows]
        self.assertEqual(told, [((1, 4, 3),), ((1,),)])

    def test_refusals(self):
        self.refused(Misfit, "other", swing, 5, (1, 2), (1, 2, 3, 4))
        self.refused(BadRow, "row", is_chess, 5, (1, 2, 1))
        self.refused(Misfit, "space", beside, Space(5, 3, []))


class TestSwing(Refusals):

    def test_as_told(self):
        source = random.Random(5)
        for clock in CLOCKS:
            for size in EVEN:
                for x, y in zip(some_rows(clock, size, 9, source), some_rows(clock, size, 9, source)):
                    self.assertEqual(swing(clock, x, tuple(y)), told_swing(clock, x, y))
                    self.assertIn(swing(clock, x, y), range(clock))
                    self.assertEqual((swing(clock, x, y) + swing(clock, y, x)) % clock, 0)
                    self.assertEqual(swing(clock, x, x), 0)

    def test_two_gaps(self):
        for x, y in itertools.product(all_rows(5, 2), repeat=2):
            self.assertEqual(swing(5, x, y), 0)

    def test_by_name(self):
        self.assertEqual(swing(other=(0, 1, 0, 0), one=(1, 0, 0, 0), clock=5), 1)

    def test_refusals(self):
        for row in NO_RIM_ROWS:
            self.refused(BadRow, "one", swing, 5, row, (0, 0))
            self.refused(BadRow, "other", swing, 5, (0, 0), row)
        for clock in NO_CLOCKS:
            self.refused(BadClock, "clock", swing, clock, (0, 0), (0, 0))
        for one, other in itertools.permutations(EVEN, 2):
            self.refused(Misfit, "other", swing, 5, [0] * one, [0] * other)

    def test_the_first_wrong_one_is_refused(self):
        self.refused(BadClock, "clock", swing, 4, (1,), None)
        self.refused(BadClock, "clock", swing, other=None, one=None, clock=None)
        self.refused(BadRow, "one", swing, 5, (1, 2, 3), (1, 5))
        self.refused(BadRow, "one", swing, 5, (5, 2), (1, 2, 3, 4))
        self.refused(BadRow, "other", swing, 5, (1, 2), (1, 2, 3, 5))

    def test_rows_stay_as_they_were(self):
        one, other = [1, 2, 3, 4], [4, 3, 2, 1]
        swing(5, one, other)
        is_chess(5, one)
        self.assertEqual((one, other), ([1, 2, 3, 4], [4, 3, 2, 1]))


class TestChess(Refusals):

    def test_each_row_of_some_sizes(self):
        for clock, size in ((3, 2), (3, 4), (3, 6), (5, 4)):
            space = chess_rows(clock, size)
            for row in all_rows(clock, size):
                wanted = len(set(row[0::2])) == 1 and len(set(row[1::2])) == 1
                self.assertIs(is_chess(clock, row), wanted)
                self.assertIs(holds(space, row), wanted)

    def test_each_gap_counts(self):
        for size in EVEN[1:]:
            self.assertIs(is_chess(5, [1, 4] * (size // 2)), True)
            for at in range(size):
                row = [1, 4] * (size // 2)
                row[at] = 2
                self.assertIs(is_chess(clock=5, row=row), False)

    def test_chess_rows(self):
        for clock in CLOCKS:
            for ends in EVEN:
                space = chess_rows(clock, ends)
                self.assertIs(type(space), Space)
                self.assertEqual((space.clock, space.size), (clock, ends))
                self.assertEqual(space.rows, ((1, 0) * (ends // 2), (0, 1) * (ends // 2)))

    def test_refusals(self):
        for clock in NO_CLOCKS:
            self.refused(BadClock, "clock", is_chess, clock, (0, 0))
            self.refused(BadClock, "clock", chess_rows, clock, 4)
        for row in NO_RIM_ROWS:
            self.refused(BadRow, "row", is_chess, 5, row)
        for ends in (0, 1, 3, 15, 17, 18, -2, 10 ** 30, *NO_INTEGERS):
            self.refused(BadNumber, "ends", chess_rows, 5, ends)
        self.refused(BadClock, "clock", is_chess, 6, (1, 2, 3))
        self.refused(BadClock, "clock", chess_rows, ends=3, clock=6)


class TestBeside(Refusals):

    def test_just_what_agrees(self):
        source = random.Random(6)
        for clock, size in ((3, 2), (3, 4), (3, 6), (5, 2), (5, 4)):
            for many in (0, 1, 1, 2, 2, 3, 4):
                rows = some_rows(clock, size, many, source)
                told = beside(Space(clock, size, rows))
                wanted = [row for row in all_rows(clock, size)
                          if all(told_swing(clock, row, each) == 0 for each in rows)]
                self.assertEqual((told.clock, told.size), (clock, size))
                self.assertEqual(clock ** told.depth, len(wanted))
                self.assertTrue(all(holds(told, row) for row in wanted))

    def test_each_size(self):
        source = random.Random(7)
        for clock in (3, 31):
            for size in EVEN:
                rows = some_rows(clock, size, 3, source)
                told = beside(space=Space(clock, size, rows))
                for one, other in itertools.product(rows, told.rows):
                    self.assertEqual(told_swing(clock, one, other), 0)
                self.assertGreaterEqual(told.depth, size - 3)
                self.assertEqual(beside(Space(clock, size, [])).depth, size)
                self.assertEqual(beside(beside(chess_rows(clock, size))), chess_rows(clock, size))

    def test_refusals(self):
        for size in (1, 3, 15, 17, 18, 20, 399, 400):
            self.refused(Misfit, "space", beside, Space(5, size, [[1] * size]))
        for value in NO_SPACES:
            self.refused(BadSpace, "space", beside, value)


class TestTurned(Refusals):

    def test_each_gap(self):
        source = random.Random(8)
        for clock, size in ((3, 1), (3, 2), (3, 3), (3, 5), (5, 4)):
            for many in (0, 1, 2, 3):
                space = Space(clock, size, some_rows(clock, size, many, source)[:4])
                for gap in range(size):
                    told = turned_space(space, gap)
                    self.assertEqual((told.clock, told.size), (clock, size))
                    wanted = [tuple(row[(gap + at) % size] for at in range(size)) for row in rows_in(space)]
                    self.assertEqual(rows_in(told), tuple(sorted(wanted)))

    def test_four_hundred_gaps(self):
        space = Space(5, 400, [[1] + [0] * 399])
        for gap in (0, 1, 399):
            row = turned_space(gap=gap, space=space).rows[0]
            self.assertEqual(row.index(1), (400 - gap) % 400)

    def test_refusals(self):
        for size in (1, 2, 3, 400):
            space = Space(5, size, [[1] * size])
            for gap in (-1, size, size + 1, -size, 10 ** 30, *NO_INTEGERS):
                self.refused(BadNumber, "gap", turned_space, space, gap)
        for value in NO_SPACES:
            self.refused(BadSpace, "space", turned_space, value, None)


if __name__ == "__main__":
    unittest.main()
