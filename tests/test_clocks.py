"""Promise 4: numbers round the clock, inverses, rows added and multiplied."""

import unittest

from ropesays.clocks import inverse, number_of, row_sum, row_times
from ropesays.errors import BadClock, BadNumber, BadRow, Misfit
from tests.odd import CLOCKS, NO_CLOCKS, NO_INTEGERS, NO_LISTS
from tests.refusals import Refusals


class TestExamples(Refusals):

    def test_numbers(self):
        told = [number_of(5, 13), number_of(5, -1), number_of(7, value=-10 ** 20), inverse(7, 3), inverse(5, 4),
                inverse(clock=31, number=2)]
        self.assertEqual(told, [3, 4, 5, 5, 4, 16])

    def test_rows(self):
        told = [row_sum(5, (1, 4, 0), [2, 3, 0]), row_times(5, 3, (1, 4, 0)), row_times(clock=3, number=0, row=[2])]
        self.assertEqual(told, [(3, 2, 0), (3, 2, 0), (0,)])

    def test_refusals(self):
        self.refused(Misfit, "number", inverse, 5, 0)
        self.refused(BadClock, "clock", number_of, 9, 1)
        self.refused(Misfit, "other", row_sum, 5, [1], [1, 2])
        self.refused(BadRow, "row", row_times, 5, 2, (5,))


class TestNumberOf(Refusals):

    def test_round_each_clock(self):
        for clock in CLOCKS:
            for number in range(clock):
                for turns in (0, 1, -1, 2, -7, 10 ** 40, -10 ** 40, 10 ** 900):
                    self.assertEqual(number_of(clock, number + turns * clock), number)

    def test_by_name(self):
        self.assertEqual(number_of(value=-8, clock=3), 1)

    def test_no_clock(self):
        for clock in NO_CLOCKS:
            self.refused(BadClock, "clock", number_of, clock, 1)

    def test_no_integer(self):
        for value in NO_INTEGERS:
            self.refused(BadNumber, "value", number_of, 5, value)

    def test_the_first_wrong_one_is_refused(self):
        self.refused(BadClock, "clock", number_of, 4, None)
        self.refused(BadClock, "clock", number_of, value="x", clock="y")


class TestInverse(Refusals):

    def test_each_number_of_each_clock(self):
        for clock in CLOCKS:
            for number in range(1, clock):
                told = inverse(clock, number)
                self.assertIn(told, range(1, clock))
                self.assertEqual(told * number % clock, 1)

    def test_zero_does_not_fit(self):
        for clock in CLOCKS:
            self.refused(Misfit, "number", inverse, clock, 0)

    def test_numbers_beside_the_clock(self):
        for clock in CLOCKS:
            for number in (-1, clock, clock + 1, -clock, 10 ** 40, -10 ** 40):
                self.refused(BadNumber, "number", inverse, clock, number)

    def test_no_integer(self):
        for value in NO_INTEGERS:
            self.refused(BadNumber, "number", inverse, 5, value)

    def test_no_clock(self):
        for clock in NO_CLOCKS:
            self.refused(BadClock, "clock", inverse, clock, 1)

    def test_the_first_wrong_one_is_refused(self):
        self.refused(BadClock, "clock", inverse, 6, 0)
        self.refused(BadClock, "clock", inverse, True, "x")
        self.refused(BadClock, "clock", inverse, number=None, clock=None)


class TestRowSum(Refusals):

    def test_all_pairs_of_numbers(self):
        for clock in CLOCKS:
            for number in range(clock):
                told = row_sum(clock, list(range(clock)), (number,) * clock)
                self.assertEqual(told, tuple([(each + number) % clock for each in range(clock)]))
                self.assertIsInstance(told, tuple)

    def test_sizes(self):
        for size in (1, 2, 399, 400):
            self.assertEqual(row_sum(31, [30] * size, [30] * size), (29,) * size)

    def test_lists_for_tuples(self):
        for one in ([1, 2], (1, 2)):
            for other in ([2, 2], (2, 2)):
                self.assertEqual(row_sum(3, one, other), (0, 1))
        self.assertEqual(row_sum(other=[1], one=[4], clock=7), (5,))

    def test_unlike_sizes(self):
        for left, right in ((1, 2), (2, 1), (399, 400), (400, 1)):
            self.refused(Misfit, "other", row_sum, 5, [1] * left, [1] * right)

    def test_sizes_out_of_bounds(self):
        for row in ([], (), [1] * 401, (1,) * 401, [1] * 4000):
            self.refused(BadRow, "one", row_sum, 5, row, [1])
            self.refused(BadRow, "one", row_sum, 5, row, row)
            self.refused(BadRow, "other", row_sum, 5, [1], row)

    def test_no_numbers_of_the_clock(self):
        for clock in CLOCKS:
            for number in (-1, clock, 10 ** 40, -10 ** 40, *NO_INTEGERS):
                self.refused(BadRow, "one", row_sum, clock, [0, number], [0, 0])
                self.refused(BadRow, "other", row_sum, clock, [0, 0], [number, 0])

    def test_no_lists(self):
        for value in NO_LISTS:
            self.refused(BadRow, "one", row_sum, 5, value, [1])
            self.refused(BadRow, "other", row_sum, 5, [1], value)

    def test_no_clock(self):
        for clock in NO_CLOCKS:
            self.refused(BadClock, "clock", row_sum, clock, [0], [0])

    def test_the_first_wrong_one_is_refused(self):
        self.refused(BadClock, "clock", row_sum, 4, "x", None)
        self.refused(BadRow, "one", row_sum, 5, None, None)
        self.refused(BadRow, "one", row_sum, 5, [1, 5], [1])
        self.refused(BadRow, "other", row_sum, 5, [1, 2], [5])
        self.refused(BadRow, "one", row_sum, other=[], one=[], clock=5)

    def test_what_is_passed_stays_as_it_was(self):
        one, other = [1, 2], [4, 4]
        row_sum(5, one, other)
        self.assertEqual((one, other), ([1, 2], [4, 4]))


class TestRowTimes(Refusals):

    def test_all_pairs_of_numbers(self):
        for clock in CLOCKS:
            for number in range(clock):
                told = row_times(clock, number, list(range(clock)))
                self.assertEqual(told, tuple([each * number % clock for each in range(clock)]))
                self.assertIsInstance(told, tuple)

    def test_sizes(self):
        for size in (1, 2, 399, 400):
            self.assertEqual(row_times(31, 30, [30] * size), (1,) * size)
            self.assertEqual(row_times(31, 30, (2,) * size), (29,) * size)

    def test_by_name(self):
        self.assertEqual(row_times(row=(1, 2), number=2, clock=3), (2, 1))

    def test_numbers_beside_the_clock(self):
        for clock in CLOCKS:
            for number in (-1, clock, clock + 1, 10 ** 40, -10 ** 40, *NO_INTEGERS):
                self.refused(BadNumber, "number", row_times, clock, number, [1])

    def test_no_rows(self):
        for row in ([], (), [1] * 401, [-1], [5], [1, 5], [10 ** 40], [[1]], *NO_LISTS):
            self.refused(BadRow, "row", row_times, 5, 2, row)
        for value in NO_INTEGERS:
            self.refused(BadRow, "row", row_times, 5, 2, [1, value])

    def test_no_clock(self):
        for clock in NO_CLOCKS:
            self.refused(BadClock, "clock", row_times, clock, 0, [0])

    def test_the_first_wrong_one_is_refused(self):
        self.refused(BadClock, "clock", row_times, 1, None, None)
        self.refused(BadNumber, "number", row_times, 5, 5, [5])
        self.refused(BadNumber, "number", row_times, 5, True, None)
        self.refused(BadNumber, "number", row_times, row="x", number="x", clock=5)

    def test_what_is_passed_stays_as_it_was(self):
        row = [1, 2, 4]
        self.assertEqual(row_times(5, 1, row), (1, 2, 4))
        row_times(5, 3, row)
        self.assertEqual(row, [1, 2, 4])


if __name__ == "__main__":
    unittest.main()
