"""Promises 2, 3, 7 and 12: which values are right papers on two tangles."""

import itertools
import random
import unittest

from ropesays.check_same import shows_same
from ropesays.errors import BadClock, BadTangle, Misfit
from ropesays.papers import Denial, Paper
from ropesays.same import Same, Unlike, judged_same
from ropesays.spaces import rows_in
from ropesays.tangles import Tangle
from ropesays.through import through
from tests.fills import few_deeds, tangle_of_regions, told_markings
from tests.knots import some_deeds
from tests.odd import NO_CLOCKS, NO_INTEGERS, NO_LISTS
from tests.refusals import Refusals
from tests.soon import Soon
from tests.test_closings import PLAIN, SIDE, THRICE
from tests.test_same import pairs
from tests.test_tangles import NO_TANGLES


class Alike(Same):
    """Made by calling a class below Same, so it is no Same."""


class Farther(Unlike):
    """Likewise, no Unlike."""


class Likely:
    """What looks like a paper."""

    def __init__(self, word, *parts):
        self.word, self.parts, self.row = word, parts, parts[0] if parts else None


class TestExamples(Refusals):

    def test_unlike(self):
        values = (Unlike((1, 0, 0, 0)), Unlike([1, 0, 0, 3]), Unlike((1, 0, 1, 0)), Unlike((1, 0, 0)), Same(), None)
        told = [shows_same(THRICE, SIDE, 5, value) for value in values]
        self.assertEqual(told, [True, True, False, False, False, False])

    def test_same(self):
        told = [shows_same(THRICE, SIDE, 3, Same()), shows_same(THRICE, SIDE, 3, Unlike((1, 0, 0, 0)))]
        self.assertEqual(told, [True, False])


class TestRightAndWrong(Refusals):

    def test_all_rows(self):
        counts = {True: 0, False: 0}
        told = few_deeds(250, 6, 30)
        for (ends, deeds), (others, other_deeds) in itertools.combinations(told, 2):
            if ends != others or ends > 6:
                continue
            rows = []
            for each in (deeds, other_deeds):
                rim, found = told_markings(3, ends, each)
                rows.append({tuple(marks[region] for region in rim) for marks in found})
            one, other = Tangle(ends, deeds), Tangle(ends, other_deeds)
            self.assertIs(shows_same(one, other, 3, Same()), rows[0] == rows[1])
            for row in itertools.product(range(3), repeat=max(ends, 1)):
                wanted = (row in rows[0]) != (row in rows[1])
                self.assertIs(shows_same(one, other, 3, Unlike(row)), wanted)
                counts[wanted] += 1
        self.assertGreater(min(counts.values()), 200)

    def test_judged_are_shown(self):
        counts = {True: 0, False: 0}
        for one, other in itertools.chain(pairs(251), pairs(252, 6)):
            for clock in (3, 31):
                told = judged_same(one, other, clock)
                self.assertIs(shows_same(value=told, clock=clock, other=other, one=one), True)
                self.assertIs(shows_same(other, one, clock, told), True)
                self.assertIs(shows_same(one, other, clock, Same()), bool(told))
                self.assertIs(shows_same(one, other, clock, Unlike((0,) * max(one.ends, 1))), False)
                counts[bool(told)] += 1
                if clock == 3 and one.ends < 10:
                    rows = rows_in(through(other, 3))
                    for row in through(one, 3).rows:
                        self.assertIs(shows_same(one, other, 3, Unlike(row)), row not in rows)
        self.assertGreater(min(counts.values()), 50)

    def test_no_ends_and_two(self):
        for one, other in pairs(253):
            if one.ends <= 2:
                self.assertIs(shows_same(one, other, 5, Same()), True)
                for row in itertools.product(range(5), repeat=max(one.ends, 1)):
                    self.assertIs(shows_same(one, other, 5, Unlike(row)), False)


class TestAnyValue(Refusals):

    def test_odd_numbers(self):
        row = (1, 0, 0, 3)
        for at in range(4):
            for wrong in (*NO_INTEGERS, row[at] + 5, row[at] - 5, str(row[at]), float(row[at]), bool(row[at]),
                          (row[at],)):
                changed = [*row[:at], wrong, *row[at + 1:]]
                self.assertIs(shows_same(THRICE, SIDE, 5, Unlike(changed)), False)

    def test_no_rows(self):
        for value in (*NO_LISTS, (), (1,), (1, 0, 0), (1, 0, 0, 0, 0), ((1, 0, 0, 0),), "1000", b"\x01\x00\x00\x00",
                      range(4), {0: 1, 1: 0, 2: 0, 3: 0}, iter((1, 0, 0, 0)), Unlike((1, 0, 0, 0))):
            self.assertIs(shows_same(THRICE, SIDE, 5, Unlike(value)), False)
            self.assertIs(shows_same(THRICE, SIDE, 3, Unlike(value)), False)

    def test_other_classes(self):
        row = (1, 0, 0, 0)
        for value in (row, list(row), Paper("unlike", row), Denial("unlike", row), Farther(row), Likely("unlike", row),
                      Unlike, False, "unlike", through(THRICE, 5), *NO_INTEGERS, *NO_LISTS):
            self.assertIs(shows_same(THRICE, SIDE, 5, value), False)
        for value in (True, "same", Same, Alike(), Paper("same"), Denial("same"), Likely("same"), (), THRICE,
                      *NO_INTEGERS, *NO_LISTS):
            self.assertIs(shows_same(THRICE, SIDE, 3, value), False)
            self.assertIs(shows_same(PLAIN, PLAIN, 7, value), False)

    def test_what_is_passed_stays(self):
        value = Unlike([1, 0, 0, 3])
        shows_same(THRICE, SIDE, 5, value)
        self.assertEqual((value.row, value.parts, value.word), ((1, 0, 0, 3), ((1, 0, 0, 3),), "unlike"))


class TestTheGreatest(Soon, Refusals):

    def test_great_tangles(self):
        source = random.Random(254)
        for clock in (3, 31):
            for ends, many, most in ((4, 3990, 4), (16, 590, 18)):
                one, other = [Tangle(ends, some_deeds(ends, many, source, most)) for _ in range(2)]
                with self.soon():
                    self.assertIs(shows_same(one, other, clock, judged_same(one, other, clock)), True)

    def test_more_regions_than_markings_are_told_for(self):
        one, other = Tangle(*tangle_of_regions(4, 401)), Tangle(*tangle_of_regions(4, 500))
        self.assertIs(shows_same(one, other, 3, Same()), True)


class TestRefusals(Refusals):

    def test_no_tangle(self):
        for value in NO_TANGLES:
            self.refused(BadTangle, "one", shows_same, value, PLAIN, 5, Same())
            self.refused(BadTangle, "other", shows_same, PLAIN, value, 5, Same())

    def test_no_clock(self):
        for value in NO_CLOCKS:
            self.refused(BadClock, "clock", shows_same, PLAIN, PLAIN, value, Same())

    def test_other_ends(self):
        tangles = [Tangle(ends, [("join", 1)] * (ends // 2)) for ends in range(0, 17, 2)]
        for one, other in itertools.permutations(tangles, 2):
            for value in (Same(), Unlike((0,)), None):
                self.refused(Misfit, "other", shows_same, one, other, 3, value)

    def test_the_first_wrong_one_is_refused(self):
        small = Tangle(2, [("join", 1)])
        self.refused(BadTangle, "one", shows_same, None, None, None, None)
        self.refused(BadTangle, "other", shows_same, value=None, clock=4, other=(4, ()), one=PLAIN)
        self.refused(BadClock, "clock", shows_same, PLAIN, small, 9, None)
        self.refused(Misfit, "other", shows_same, PLAIN, small, 5, None)


if __name__ == "__main__":
    unittest.main()
