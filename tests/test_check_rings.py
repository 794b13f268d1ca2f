"""Promises 3 and 9: which values are right papers on a row of a ring."""

import random
import unittest

from ropesays.check_rings import shows_ring
from ropesays.errors import BadClock, BadRow
from ropesays.papers import Denial, Paper
from ropesays.rings import Chess, Led, judged_ring
from tests.games import EVEN, all_rows, some_rows, told_chess, told_game, told_nearly
from tests.odd import CLOCKS, NO_CLOCKS, NO_INTEGERS, NO_LISTS
from tests.refusals import Refusals
from tests.soon import Soon
from tests.test_rims import NO_RIM_ROWS

ROW = (0, 1, 0, 2, 0, 1)


class Guided(Led):
    """Made by calling a class below Led, so it is no Led."""


class Board(Chess):
    """Likewise, no Chess."""


class Likely:
    """What looks like a paper."""

    word, parts, sets = "led", ((),), ()


class TestExamples(Refusals):

    def test_games(self):
        values = (Led([]), Led([(2, 4)]), Led([(2, 4), [3, 1]]), Led([(3, 1)]), Chess())
        self.assertEqual([shows_ring(5, ROW, value) for value in values], [True, False, True, False, False])

    def test_chess(self):
        self.assertEqual([shows_ring(3, (2, 1, 2, 1), value) for value in (Chess(), Led([]), None)],
                         [True, False, False])

    def test_judged(self):
        row = (1, 5, 0, 0, 6, 2, 2, 3)
        self.assertIs(shows_ring(7, row, judged_ring(7, row)), True)


class TestRightAndWrong(Refusals):

    def test_all_rows_of_four_numbers(self):
        counts = {True: 0, False: 0}
        pairs = [(gap, number) for gap in range(4) for number in range(3)]
        games = [(), *[(one,) for one in pairs], *[(one, other) for one in pairs for other in pairs]]
        for row in all_rows(3, 4):
            self.assertIs(shows_ring(3, row, Chess()), told_chess(row))
            for sets in games:
                wanted = told_game(3, row, sets)
                self.assertIs(shows_ring(3, row, Led(sets)), wanted)
                counts[wanted] += 1
        self.assertGreater(min(counts.values()), 1000)

    def test_two_gaps(self):
        for row in all_rows(5, 2):
            self.assertIs(shows_ring(5, row, Chess()), True)
            for sets in ((), ((0, 1),), ((1, 0),)):
                self.assertIs(shows_ring(5, row, Led(sets)), False)

    def test_no_sets(self):
        source = random.Random(120)
        for clock in CLOCKS:
            for size in EVEN:
                for row in some_rows(clock, size, source):
                    self.assertIs(shows_ring(clock, row, Led([])), told_nearly(clock, row))
                    self.assertIs(shows_ring(clock, row, Chess()), told_chess(row))

    def test_judged_rings_are_shown(self):
        source = random.Random(121)
        for clock in CLOCKS:
            for size in EVEN:
                for row in some_rows(clock, size, source):
                    told = judged_ring(clock, row)
                    self.assertIs(shows_ring(value=told, row=row, clock=clock), True)
                    self.assertIs(shows_ring(clock, row, Chess() if told else Led([])), False)

    def test_games_that_are_changed(self):
        source = random.Random(122)
        counts = {True: 0, False: 0}
        for size in EVEN[1:]:
            for row in some_rows(7, size, source, 4):
                sets = [] if told_chess(row) else list(judged_ring(7, row).sets)
                for at in range(len(sets)):
                    gap, number = sets[at]
                    for wrong in ([], [(gap, (number + 1) % 7)], [((gap + 1) % size, number)], [sets[at]] * 2):
                        changed = sets[:at] + wrong + sets[at + 1:]
                        wanted = told_game(7, row, changed)
                        self.assertIs(shows_ring(7, row, Led(changed)), wanted)
                        counts[wanted] += 1
        self.assertGreater(min(counts.values()), 30)

    def test_games_that_go_on(self):
        # Behind a row that is nearly chess a game may go on, and must come to such a row again.
        walk = [(2, 4), (3, 1), (3, 2), (2, 0)]
        for many in range(len(walk) + 1):
            self.assertIs(shows_ring(5, ROW, Led(walk[:many])), told_game(5, ROW, walk[:many]))
        self.assertIs(shows_ring(5, ROW, Led(walk)), True)


class TestAnyValue(Soon, Refusals):

    def test_games_of_a_thousand_pairs(self):
        # Gap 4 lies between 2 and 1, so it may be set to 0 again and again.
        for many, wanted in ((0, True), (1, True), (999, True), (1000, True), (1001, False), (5000, False)):
            with self.soon():
                self.assertIs(shows_ring(5, ROW, Led([(4, 0)] * many)), wanted)
        self.assertIs(shows_ring(5, ROW, Led([(4, 0)] * 999 + [(4, 1)])), False)
        self.assertIs(shows_ring(5, ROW, Led([(4, 0)] * 999 + [(0, 1)])), False)

    def test_odd_pairs(self):
        self.assertIs(shows_ring(5, ROW, Led([(4, 0)])), True)
        self.assertIs(shows_ring(5, ROW, Led([[4, 0]])), True)
        for wrong in ((), (4,), (4, 0, 0), (0, 4), (6, 0), (-2, 0), (4, 5), (4, -5), (4, 10 ** 40), ((4, 0), (4, 0)),
                      ((4,), 0), "40", {4: 0}, {4, 0}, 40, None, *[(4, value) for value in NO_INTEGERS],
                      *[(value, 0) for value in NO_INTEGERS], *NO_LISTS):
            for sets in ([wrong], [(4, 0), wrong], [wrong, (4, 0)]):
                self.assertIs(shows_ring(5, ROW, Led(sets)), False, sets)

    def test_bounds_of_gaps_and_numbers(self):
        # In each row this gap may be set, and is set right again behind a wrong pair.
        for row, gap in ((ROW, 4), (ROW, 2), ((0, 1, 0, 1, 2, 1), 5), ((0, 1, 0, 1, 0, 2), 0)):
            back = (gap, row[gap])
            self.assertIs(shows_ring(5, row, Led([(gap, 3), back])), True)
            for wrong in ((gap, -1), (gap, 5), (gap, -5), (gap, 10 ** 30), (gap - 6, 3), (gap + 6, 3),
                          (gap - 6, row[gap]), (gap + 6, row[gap])):
                for sets in ([wrong], [wrong, back], [back, wrong]):
                    self.assertIs(shows_ring(5, row, Led(sets)), False)

    def test_truths(self):
        # In the place of gap 1 and of the number 1.
        row = (0, 1, 1, 2, 0, 1)
        self.assertIs(shows_ring(5, row, Led([(1, 1), (2, 0)])), True)
        for sets in ([(True, 1), (2, 0)], [(1, True), (2, 0)], [(1, 1), (2, False)], [(1.0, 1), (2, 0)]):
            self.assertIs(shows_ring(5, row, Led(sets)), False)

    def test_no_sets_of_pairs(self):
        for value in (*NO_LISTS, "", "()", b"", {}, range(0), iter(()), set(), Led([]), Chess()):
            self.assertIs(shows_ring(5, ROW, Led(value)), False)

    def test_other_classes(self):
        for value in ((), [], Paper("led", ()), Denial("led", ()), Guided([]), Likely(), Led, True, "led",
                      *NO_INTEGERS, *NO_LISTS):
            self.assertIs(shows_ring(5, ROW, value), False)
        for value in (Denial("chess"), Paper("chess"), Board(), Chess, False, "chess", *NO_INTEGERS, *NO_LISTS):
            self.assertIs(shows_ring(5, (2, 1, 2, 1), value), False)

    def test_what_is_passed_stays(self):
        row, value = list(ROW), Led([(2, 4), (3, 1)])
        shows_ring(5, row, value)
        self.assertEqual((row, value), (list(ROW), Led([(2, 4), (3, 1)])))


class TestRefusals(Refusals):

    def test_no_clock(self):
        for clock in NO_CLOCKS:
            self.refused(BadClock, "clock", shows_ring, clock, ROW, Led([]))

    def test_no_row(self):
        for row in NO_RIM_ROWS:
            self.refused(BadRow, "row", shows_ring, 5, row, Chess())

    def test_the_first_wrong_one_is_refused(self):
        self.refused(BadClock, "clock", shows_ring, 4, (0, 0, 0), None)
        self.refused(BadRow, "row", shows_ring, value=None, row=(0, 0, 0), clock=5)


if __name__ == "__main__":
    unittest.main()
