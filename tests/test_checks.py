"""Promise 2: what is an integer, one within bounds, a clock, a row."""

import unittest

from ropesays.checks import is_clock, is_integer, is_row, is_within
from tests.odd import CLOCKS, NO_INTEGERS, NO_LISTS, Agreeing, Refusing


class Checked(unittest.TestCase):

    def check(self, value, wanted, *told):
        self.assertIs(value, wanted, told)


class TestExamples(Checked):

    def test_integers_and_clocks(self):
        told = [is_integer(False), is_within(4, None, 4), is_clock(31), is_clock(9), is_clock(2), is_clock(True),
                is_clock("3")]
        self.assertEqual(told, [False, True, True, False, False, False, False])

    def test_rows(self):
        told = [is_row([0, 4, 4], 5, 3), is_row((0, 5), 5, 2), is_row([1, 1], 3, 3), is_row([], 7, 0),
                is_row([True], 3, 1), is_row("00", 3, 2)]
        self.assertEqual(told, [True, False, False, True, False, False])


class TestIsInteger(Checked):

    def test_integers_of_any_size(self):
        for value in (0, 1, -1, 2, 31, 10 ** 40, -10 ** 40, 10 ** 900, -2 ** 5000):
            self.check(is_integer(value), True, value)

    def test_other_values(self):
        for value in NO_INTEGERS:
            self.check(is_integer(value), False, value.__class__)

    def test_by_name(self):
        self.check(is_integer(value=5), True)


class TestIsWithin(Checked):

    def test_both_ends(self):
        for least, most in ((0, 4), (-3, -3), (-10 ** 30, 10 ** 30), (1, 400)):
            for value, wanted in ((least - 1, False), (least, True), (most, True), (most + 1, False)):
                self.check(is_within(value, least, most), wanted, value, least, most)

    def test_one_end_open(self):
        for value, wanted in ((3, False), (4, True), (5, True), (10 ** 50, True), (-10 ** 50, False)):
            self.check(is_within(value, 4, None), wanted, value)
        for value, wanted in ((3, True), (4, True), (5, False), (10 ** 50, False), (-10 ** 50, True)):
            self.check(is_within(value, None, 4), wanted, value)
        self.check(is_within(-1, 0, None), False)
        self.check(is_within(1, None, 0), False)

    def test_both_ends_open(self):
        for value in (0, -1, 1, 10 ** 50, -10 ** 50):
            self.check(is_within(value, None, None), True, value)

    def test_no_integer_is_between_crossed_bounds(self):
        for value in (3, 4, 5):
            self.check(is_within(value, 5, 3), False, value)

    def test_other_values(self):
        for value in NO_INTEGERS:
            for least, most in ((None, None), (0, 5), (None, 5), (0, None)):
                self.check(is_within(value, least, most), False, value.__class__)

    def test_by_name(self):
        self.check(is_within(most=5, least=5, value=5), True)
        self.check(is_within(6, most=5, least=None), False)


class TestIsClock(Checked):

    def test_all_integers_near_the_clocks(self):
        for value in range(-40, 70):
            self.check(is_clock(value), value in CLOCKS, value)

    def test_great_integers(self):
        for value in (37, 961, 10 ** 40 + 3, -10 ** 40, 2 ** 61 - 1):
            self.check(is_clock(value), False, value)

    def test_other_values(self):
        for value in NO_INTEGERS:
            self.check(is_clock(value), False, value.__class__)

    def test_by_name(self):
        self.check(is_clock(value=29), True)


class TestIsRow(Checked):

    def test_lists_and_tuples_of_numbers_of_each_clock(self):
        for clock in CLOCKS:
            row = list(range(clock))
            self.check(is_row(row, clock, clock), True, clock)
            self.check(is_row(tuple(row), clock, clock), True, clock)

    def test_both_ends_of_the_numbers(self):
        for clock in CLOCKS:
            for number, wanted in ((-1, False), (0, True), (clock - 1, True), (clock, False)):
                self.check(is_row([number], clock, 1), wanted, clock, number)
                self.check(is_row((0, number, 0), clock, 3), wanted, clock, number)
            self.check(is_row([10 ** 40], clock, 1), False, clock)
            self.check(is_row([-10 ** 40], clock, 1), False, clock)

    def test_just_so_many(self):
        for size in (0, 1, 2, 16, 400, 401):
            for row in ([1] * size, (2,) * size):
                self.check(is_row(row, 3, size), True, size)
                self.check(is_row(row, 3, size + 1), False, size)
                if size:
                    self.check(is_row(row, 3, size - 1), False, size)

    def test_each_number_counts(self):
        for at in range(400):
            row = [1] * 400
            row[at] = 5
            self.check(is_row(row, 5, 400), False, at)

    def test_other_values_in_a_row(self):
        for value in NO_INTEGERS:
            self.check(is_row([1, value], 5, 2), False, value.__class__)
            self.check(is_row((value,), 5, 1), False, value.__class__)

    def test_other_values_for_a_row(self):
        for value in NO_LISTS:
            for size in (0, 1, 2):
                self.check(is_row(value, 5, size), False, value.__class__)

    def test_rows_of_rows_are_no_rows(self):
        self.check(is_row([[1], [2]], 5, 2), False)
        self.check(is_row([(1, 2)], 5, 1), False)

    def test_nothing_is_a_number_of_what_is_no_clock(self):
        for clock in (9, 2, 1, 0, -3, 37, True, None, "5", 5.0):
            self.check(is_row([0], clock, 1), False, clock)
            self.check(is_row([], clock, 0), False, clock)

    def test_by_name(self):
        self.check(is_row(size=2, clock=7, value=[6, 0]), True)

    def test_a_row_is_left_as_it_was(self):
        row = [1, 2, 3]
        is_row(row, 5, 3)
        self.assertEqual(row, [1, 2, 3])

    def test_values_that_agree_with_all_or_with_nothing(self):
        for value in (Agreeing(), Refusing()):
            for told in (is_integer(value), is_within(value, 0, 1), is_clock(value), is_row([value], 3, 1)):
                self.check(told, False)


if __name__ == "__main__":
    unittest.main()
