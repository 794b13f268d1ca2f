"""Promises 2, 3 and 9: where a number may be set, and a game for each row but chess rows."""

import random
import unittest

from ropesays.errors import BadClock, BadNumber, BadRow, Misfit
from ropesays.papers import Denial, Paper
from ropesays.rings import Chess, Led, judged_ring, may_set, set_at
from tests.games import EVEN, all_rows, some_rows, told_chess, told_game, told_nearly
from tests.odd import CLOCKS, NO_CLOCKS, NO_INTEGERS
from tests.refusals import Refusals
from tests.test_rims import NO_RIM_ROWS

ROW = (0, 1, 0, 2, 0, 1)


class TestExamples(Refusals):

    def test_sets(self):
        told = [may_set(5, ROW, 3), may_set(5, ROW, 2), may_set(clock=5, row=ROW, gap=0), set_at(5, ROW, 2, 4),
                set_at(clock=5, row=list(ROW), gap=4, number=0)]
        self.assertEqual(told, [False, True, False, (0, 1, 4, 2, 0, 1), (0, 1, 0, 2, 0, 1)])

    def test_judged(self):
        told = judged_ring(3, (0, 1, 2, 1, 1, 2))
        self.assertEqual([bool(told), len(told.sets) <= 11], [True, True])
        self.assertEqual([judged_ring(3, (0, 1, 0, 1)) == Chess(), judged_ring(31, [4, 6]).word], [True, "chess"])

    def test_refusals(self):
        self.refused(Misfit, "gap", set_at, 5, ROW, 3, 4)
        self.refused(BadRow, "row", may_set, 5, (1, 2, 3), 0)
        self.refused(BadNumber, "gap", may_set, 5, ROW, 6)


class TestPapers(Refusals):

    def test_led(self):
        for paper in (Led([(0, 1), [2, 3]]), Led(sets=((0, 1), (2, 3)))):
            self.assertEqual((paper.word, paper.sets, paper.parts), ("led", ((0, 1), (2, 3)), (((0, 1), (2, 3)),)))
            self.assertIs(bool(paper), True)
        for value in (None, True, "sets", {}, Led([])):
            self.assertEqual((Led(value).sets, Led(value).parts), (value, (value,)))
        self.assertIsInstance(Led([]), Paper)
        self.assertNotIsInstance(Led([]), Denial)

    def test_chess(self):
        self.assertEqual((Chess().word, Chess().parts, bool(Chess())), ("chess", (), False))
        self.assertIsInstance(Chess(), Denial)

    def test_equality(self):
        self.assertIs(Led([[1, 2]]) == Led(((1, 2),)), True)
        self.assertIs(Chess() == Chess(), True)
        for one, other in ((Led([]), Led([(0, 1)])), (Led([]), Paper("led", [])), (Chess(), Denial("chess")),
                           (Led([]), ()), (Chess(), None), (Chess(), False), (Led([]), Chess())):
            self.assertIs(one == other, False)
            self.assertIs(other == one, False)


class TestSets(Refusals):

    def test_each_gap(self):
        source = random.Random(110)
        for clock in CLOCKS:
            for size in EVEN:
                for row in some_rows(clock, size, source, 2):
                    for gap in range(size):
                        number = source.randrange(clock)
                        fits = row[(gap - 1) % size] != row[(gap + 1) % size]
                        self.assertIs(may_set(clock, row, gap), fits)
                        if fits:
                            wanted = list(row)
                            wanted[gap] = number
                            told = set_at(clock, row, gap, number)
                            self.assertEqual(told, tuple(wanted))
                            self.assertIs(type(told), tuple)
                        else:
                            self.refused(Misfit, "gap", set_at, clock, row, gap, number)

    def test_two_gaps(self):
        # Each is on both sides of the other one.
        for row in all_rows(5, 2):
            for gap in (0, 1):
                self.assertIs(may_set(5, row, gap), False)
                self.refused(Misfit, "gap", set_at, 5, row, gap, row[gap])

    def test_what_was_set_is_set_back(self):
        for row in all_rows(3, 6):
            for gap in range(6):
                if may_set(3, row, gap):
                    for number in range(3):
                        self.assertEqual(set_at(3, set_at(3, row, gap, number), gap, row[gap]), row)

    def test_what_is_passed_stays(self):
        row = [0, 1, 0, 2, 0, 1]
        set_at(5, row, 2, 4)
        judged_ring(5, row)
        self.assertEqual(row, list(ROW))


class TestJudged(Refusals):

    def check(self, clock, row):
        told = judged_ring(clock, row)
        if told_chess(row):
            self.assertEqual(told, Chess())
            self.assertIs(type(told), Chess)
        else:
            self.assertIs(type(told), Led)
            self.assertTrue(told_game(clock, row, told.sets), (clock, row, told.sets))
            self.assertLessEqual(len(told.sets), 3 * len(row) - 7)
            self.assertTrue(all(type(pair) is tuple for pair in (told.sets, *told.sets)))
        return told

    def test_each_row_of_some_sizes(self):
        for clock, size in ((3, 2), (3, 4), (3, 6), (3, 8), (5, 2), (5, 4), (7, 4), (31, 2)):
            for row in all_rows(clock, size):
                self.check(clock, row)

    def test_rows_by_chance(self):
        source = random.Random(111)
        for clock in CLOCKS:
            for size in EVEN:
                for row in some_rows(clock, size, source, 12):
                    self.check(clock, row)

    def test_rows_that_ask_for_many_sets(self):
        # Whites that are all unlike, with blacks that are all alike; and the other way about.
        for size in EVEN[1:]:
            for clock in (3, 31):
                blacks = [at // 2 % clock if at % 2 == 0 else 1 for at in range(size)]
                whites = [at // 2 % clock if at % 2 == 1 else 1 for at in range(size)]
                turns = [at % 2 * ((at // 2) % 2 + 1) for at in range(size)]
                for row in (blacks, whites, turns):
                    for shift in range(size):
                        self.check(clock, row[shift:] + row[:shift])

    def test_nearly_chess(self):
        # None need be set; more might be, but the row asks for none.
        for clock, size in ((3, 4), (3, 6), (5, 4)):
            for row in all_rows(clock, size):
                if told_nearly(clock, row):
                    self.assertEqual(self.check(clock, row).sets, ())

    def test_again(self):
        source = random.Random(112)
        for size in EVEN:
            for row in some_rows(7, size, source, 4):
                told = judged_ring(7, row)
                self.assertEqual(judged_ring(7, tuple(row)), told)
                self.assertEqual(judged_ring(row=list(row), clock=7), told)


class TestRefusals(Refusals):

    def calls(self, clock, row):
        return ((may_set, clock, row, 0), (set_at, clock, row, 0, 0), (judged_ring, clock, row))

    def test_no_clock(self):
        for value in NO_CLOCKS:
            for call in self.calls(value, ROW):
                self.refused(BadClock, "clock", *call)

    def test_no_row(self):
        for value in NO_RIM_ROWS:
            for call in self.calls(5, value):
                self.refused(BadRow, "row", *call)

    def test_no_gap(self):
        for size in EVEN:
            for gap in (-1, size, size + 1, 10 ** 30, *NO_INTEGERS):
                self.refused(BadNumber, "gap", may_set, 5, [0] * size, gap)
                self.refused(BadNumber, "gap", set_at, 5, [0] * size, gap, 0)

    def test_no_number(self):
        for number in (-1, 5, 6, 10 ** 30, -10 ** 30, *NO_INTEGERS):
            self.refused(BadNumber, "number", set_at, 5, ROW, 2, number)
            # The number comes ahead of whether it may be set.
            self.refused(BadNumber, "number", set_at, 5, ROW, 3, number)

    def test_the_first_wrong_one_is_refused(self):
        self.refused(BadClock, "clock", may_set, 4, None, None)
        self.refused(BadRow, "row", may_set, 5, (5, 0), 9)
        self.refused(BadClock, "clock", set_at, None, None, None, None)
        self.refused(BadRow, "row", set_at, 5, (0, 0, 0), 3, 5)
        self.refused(BadNumber, "gap", set_at, 5, ROW, 6, 5)
        self.refused(BadNumber, "gap", set_at, number=None, gap=True, row=ROW, clock=5)
        self.refused(BadClock, "clock", judged_ring, 4, (0, 0, 0))


if __name__ == "__main__":
    unittest.main()
