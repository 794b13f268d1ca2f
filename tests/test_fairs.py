"""Promises 2 and 5: fair spaces, how many there are, all of them."""

import itertools
import random
import unittest

from ropesays.errors import BadClock, BadNumber, BadSpace, Misfit
from ropesays.fairs import fair_count, fair_spaces, is_fair
from ropesays.rims import beside, chess_rows, turned_space
from ropesays.spaces import Space, rows_in
from tests.odd import CLOCKS, NO_CLOCKS, NO_INTEGERS
from tests.refusals import Refusals
from tests.test_rims import told_swing
from tests.test_spaces import NO_SPACES, all_rows

# Clocks and ends for which there are at most 400 fair spaces, with how many there are.
FEW = {(clock, ends): 1 for clock in CLOCKS for ends in (0, 2)}
FEW.update({(clock, 4): clock + 1 for clock in CLOCKS})
FEW.update({(3, 6): 40, (5, 6): 156, (7, 6): 400})


class TestExamples(Refusals):

    def test_is_fair(self):
        told = [is_fair(beside(Space(5, 4, [(1, 0, 0, 0)]))), is_fair(chess_rows(5, 4)), is_fair(chess_rows(5, 2)),
                is_fair(Space(5, 1, [(1,)])), is_fair(Space(5, 1, []))]
        self.assertEqual(told, [True, False, True, True, False])

    def test_counts(self):
        told = [[fair_count(3, ends) for ends in (0, 2, 4, 6, 8)], fair_count(7, 6), fair_count(31, 4)]
        self.assertEqual(told, [[1, 1, 4, 40, 1120], 400, 32])

    def test_spaces(self):
        self.assertEqual([space.rows[0] for space in fair_spaces(3, 4)],
                         [(1, 0, 0, 0), (1, 0, 0, 1), (1, 0, 0, 2), (1, 0, 1, 0)])
        told = [fair_spaces(3, 4)[1].rows, fair_spaces(3, 4)[3].rows,
                turned_space(fair_spaces(3, 4)[1], 1) == fair_spaces(3, 4)[2], len(fair_spaces(5, 6))]
        self.assertEqual(told, [((1, 0, 0, 1), (0, 1, 0, 1), (0, 0, 1, 2)), ((1, 0, 1, 0), (0, 1, 0, 0), (0, 0, 0, 1)),
                                True, 156])
        told = [[space.rows for space in fair_spaces(11, 0)], [space.depth for space in fair_spaces(11, 2)]]
        self.assertEqual(told, [[((1,),)], [2]])

    def test_refusals(self):
        self.too_many("spaces", 400, fair_spaces, 3, 8)
        self.refused(Misfit, "space", is_fair, Space(3, 5, []))


class TestIsFair(Refusals):

    def test_each_space_of_four_gaps(self):
        # All spaces are given by at most four rows; by three of them all that may be fair.
        leading = [row for row in all_rows(3, 4) if next((number for number in row if number), 0) == 1]
        spaces = [Space(3, 4, given) for given in itertools.combinations(leading, 3)]
        found = {space.rows: space for space in spaces}
        fair = 0
        for space in found.values():
            rows = set(rows_in(space))
            agreeing = {row for row in all_rows(3, 4) if all(told_swing(3, row, each) == 0 for each in rows)}
            self.assertIs(is_fair(space), rows == agreeing)
            fair += rows == agreeing
        self.assertEqual(fair, 4)

    def test_too_few_rows_and_too_many(self):
        for clock, ends in ((3, 4), (5, 4), (3, 6), (31, 4)):
            for space in fair_spaces(clock, ends)[:12]:
                self.assertIs(is_fair(space), True)
                self.assertIs(is_fair(Space(clock, ends, space.rows[1:])), False)
                for row in ((1,) + (0,) * (ends - 1), (0, 1) + (0,) * (ends - 2)):
                    wider = Space(clock, ends, space.rows + (row,))
                    self.assertIs(is_fair(wider), wider == space)

    def test_sizes(self):
        for clock in CLOCKS:
            for size in (2, 4, 10, 16):
                whole = Space(clock, size, [[int(at == k) for at in range(size)] for k in range(size)])
                self.assertIs(is_fair(whole), size == 2)
                self.assertIs(is_fair(Space(clock, size, [])), False)
                self.assertIs(is_fair(chess_rows(clock, size)), size == 2)
                # The rows with any numbers at the even gaps, and one number at all others.
                rows = [[int(at == k) for at in range(size)] for k in range(0, size, 2)] + [[0, 1] * (size // 2)]
                self.assertIs(is_fair(Space(clock, size, rows)), True)
            self.assertIs(is_fair(space=Space(clock, 2, [(1, 1)])), False)
            self.assertIs(is_fair(Space(clock, 1, [(clock - 1,)])), True)
            self.assertIs(is_fair(Space(clock, 1, [(0,)])), False)

    def test_refusals(self):
        for size in (3, 5, 15, 17, 18, 400):
            self.refused(Misfit, "space", is_fair, Space(3, size, []))
        for value in NO_SPACES:
            self.refused(BadSpace, "space", is_fair, value)


class TestFairCount(Refusals):

    def test_each_clock(self):
        for clock in CLOCKS:
            wanted = 1
            for ends in range(0, 17, 2):
                if ends >= 4:
                    wanted *= clock ** (ends // 2 - 1) + 1
                self.assertEqual(fair_count(clock, ends), wanted)
        self.assertEqual(fair_count(ends=16, clock=3), 4 * 10 * 28 * 82 * 244 * 730 * 2188)

    def test_refusals(self):
        for call in (fair_count, fair_spaces):
            for clock in NO_CLOCKS:
                self.refused(BadClock, "clock", call, clock, 4)
            for ends in (-2, -1, 1, 3, 15, 17, 18, 10 ** 30, *NO_INTEGERS):
                self.refused(BadNumber, "ends", call, 5, ends)
            self.refused(BadClock, "clock", call, 9, 5)
            self.refused(BadClock, "clock", call, ends=None, clock=None)
            self.refused(BadNumber, "ends", call, 31, 17)


class TestFairSpaces(Refusals):

    def test_all_of_them_ascending(self):
        for (clock, ends), many in FEW.items():
            told = fair_spaces(clock, ends)
            self.assertIsInstance(told, tuple)
            self.assertEqual(len(told), many)
            self.assertEqual(fair_count(clock, ends), many)
            for space in told:
                self.assertIs(type(space), Space)
                self.assertEqual((space.clock, space.size), (clock, max(ends, 1)))
                self.assertIs(is_fair(space), True)
            rows = [space.rows for space in told]
            self.assertEqual(rows, sorted(rows))
            self.assertEqual(len(set(rows)), many)

    def test_turned_and_changed_they_stay(self):
        source = random.Random(3)
        for clock, ends in ((3, 4), (3, 6), (5, 6), (7, 6)):
            told = fair_spaces(ends=ends, clock=clock)
            rows = {space.rows for space in told}
            for space in source.sample(told, min(len(told), 40)):
                self.assertIn(turned_space(space, source.randrange(ends)).rows, rows)
                gap = source.randrange(ends)
                changed = []
                for row in space.rows:
                    step = row[gap - 1] - row[(gap + 1) % ends]
                    changed.append([(number + step * (at == gap)) % clock for at, number in enumerate(row)])
                self.assertIn(Space(clock, ends, changed).rows, rows)

    def test_too_many(self):
        for clock in CLOCKS:
            for ends in range(6, 17, 2):
                if (clock, ends) not in FEW:
                    self.too_many("spaces", 400, fair_spaces, clock, ends)


if __name__ == "__main__":
    unittest.main()
