"""Promise 9: of how few pairs a game can be."""

import unittest

from ropesays.check_rings import shows_ring
from ropesays.errors import BadClock, BadRow
from ropesays.fewest import fewest_sets
from ropesays.rings import Led, judged_ring
from tests.games import EVEN, all_rows, told_chess, told_nearly
from tests.odd import CLOCKS, NO_CLOCKS
from tests.refusals import Refusals
from tests.soon import Soon
from tests.test_rims import NO_RIM_ROWS


def told_fewest(clock, size):
    """For each row but chess rows the least number, spread from the rows that are nearly chess, by sets taken back."""
    told = {row: 0 for row in all_rows(clock, size) if told_nearly(clock, row)}
    last = list(told)
    while last:
        more = []
        for row in last:
            for gap in range(size):
                if row[gap - 1] != row[(gap + 1) % size]:
                    for number in range(clock):
                        other = (*row[:gap], number, *row[gap + 1:])
                        if other not in told:
                            told[other] = told[row] + 1
                            more.append(other)
        last = more
    return told


class TestExamples(Refusals):

    def test_fewest(self):
        told = [fewest_sets(5, (0, 1, 0, 2)), fewest_sets(3, (0, 0, 1, 1)), fewest_sets(3, (0, 0, 0, 1, 0, 2)),
                fewest_sets(3, (0, 1, 0, 1)), fewest_sets(clock=31, row=[4, 6])]
        self.assertEqual(told, [0, 1, 3, None, None])

    def test_too_many(self):
        self.too_many("rows", 2500, fewest_sets, 3, (0, 1, 0, 2, 0, 1, 0, 1))


class TestFewest(Soon, Refusals):

    def check(self, clock, size):
        wanted = told_fewest(clock, size)
        told = {}
        with self.soon():
            for row in all_rows(clock, size):
                told[row] = fewest_sets(clock, row)
        for row, least in told.items():
            self.assertEqual(least, None if told_chess(row) else wanted[row])
            self.assertIn(type(least), (int, type(None)))
            if least is not None:
                self.assertLessEqual(least, len(judged_ring(clock, row).sets))
        return list(told.values())

    def test_all_rows_of_four_numbers(self):
        for clock in (3, 5):
            told = self.check(clock, 4)
            self.assertEqual((told.count(None), max(least or 0 for least in told)), (clock ** 2, 1))

    def test_six_numbers_on_the_clock_of_three(self):
        told = self.check(3, 6)
        self.assertEqual((told.count(None), told.count(3), max(least or 0 for least in told)), (9, 72, 3))

    def test_two_numbers(self):
        for clock in CLOCKS:
            self.assertEqual({fewest_sets(clock, row) for row in all_rows(clock, 2)}, {None})

    def test_the_most_rows(self):
        # 7 ** 4 is 2401.
        for row, least in (((0, 0, 1, 1), 1), ((0, 6, 5, 6), 0), ([3, 4, 3, 4], None), ((1, 2, 3, 4), 1)):
            with self.soon():
                self.assertEqual(fewest_sets(7, row), least)

    def test_none_fewer_shows(self):
        # Of the rows of six numbers that need one pair no single pair is passed over.
        for row in list(all_rows(3, 6))[::11]:
            if not told_chess(row):
                pairs = [(gap, number) for gap in range(6) for number in range(3)]
                none, one = shows_ring(3, row, Led([])), any(shows_ring(3, row, Led([pair])) for pair in pairs)
                self.assertEqual(min(fewest_sets(3, row), 2), 0 if none else 1 if one else 2)

    def test_what_is_passed_stays(self):
        row = [0, 0, 1, 1]
        fewest_sets(3, row)
        self.assertEqual(row, [0, 0, 1, 1])


class TestRefusals(Refusals):

    def test_too_many_rows(self):
        for clock in CLOCKS:
            for size in EVEN:
                if clock ** size > 2500:
                    # For a chess row, too.
                    self.too_many("rows", 2500, fewest_sets, clock, [1] * size)
                    self.too_many("rows", 2500, fewest_sets, clock, [0, 1] * (size // 2 - 1) + [0, 2])

    def test_no_clock(self):
        for clock in NO_CLOCKS:
            self.refused(BadClock, "clock", fewest_sets, clock, (0, 0, 1, 1))

    def test_no_row(self):
        for row in NO_RIM_ROWS:
            self.refused(BadRow, "row", fewest_sets, 5, row)

    def test_the_first_wrong_one_is_refused(self):
        self.refused(BadClock, "clock", fewest_sets, 4, (0, 0, 0))
        self.refused(BadRow, "row", fewest_sets, 31, [0] * 15 + [31])
        self.refused(BadRow, "row", fewest_sets, row=[0] * 18, clock=31)


if __name__ == "__main__":
    unittest.main()
