"""Promises 2, 3, 7 and 12: whether two tangles say the same, and rows that part them."""

import itertools
import random
import unittest

from ropesays.closings import closed_depth
from ropesays.errors import BadClock, BadTangle, Misfit
from ropesays.fairs import fair_spaces
from ropesays.moves import moved, moves_at, pulled
from ropesays.papers import Denial, Paper
from ropesays.same import Same, Unlike, judged_same
from ropesays.spaces import holds, rows_in
from ropesays.tangles import Tangle, turned
from ropesays.through import free_depth, through
from ropesays.tied import tied
from tests.fills import few_deeds, tangle_of_regions, told_markings
from tests.knots import many_deeds, some_deeds
from tests.odd import CLOCKS, NO_CLOCKS
from tests.refusals import Refusals
from tests.soon import Soon
from tests.test_closings import PLAIN, SIDE, THRICE
from tests.test_tangles import NO_TANGLES


def pairs(seed, most=24):
    """Tangles with as many ends, by twos, some of them alike."""
    told = {}
    for ends, deeds in many_deeds(seed, most):
        told.setdefault(ends, []).append(Tangle(ends, deeds))
    for tangles in told.values():
        yield from zip(tangles, tangles[1:] + tangles[:1])
        yield tangles[0], pulled(tangles[0])


class TestExamples(Refusals):

    def test_judged(self):
        told = [judged_same(THRICE, SIDE, 3) == Same(), bool(judged_same(THRICE, SIDE, 5)),
                judged_same(PLAIN, SIDE, clock=5).word]
        self.assertEqual(told, [True, False, "unlike"])
        told = judged_same(one=THRICE, other=SIDE, clock=5)
        self.assertEqual([holds(through(tangle, 5), told.row) for tangle in (THRICE, SIDE)].count(True), 1)

    def test_refusals(self):
        self.refused(Misfit, "other", judged_same, THRICE, Tangle(0, []), 5)


class TestPapers(Refusals):

    def test_same(self):
        self.assertEqual((Same().word, Same().parts, bool(Same())), ("same", (), True))
        self.assertIsInstance(Same(), Paper)
        self.assertNotIsInstance(Same(), Denial)
        self.assertEqual(Same(), Same())
        self.assertRaises(TypeError, Same, 1)

    def test_unlike(self):
        for row, kept in (([1, 0], (1, 0)), ((1, 0), (1, 0)), ([[1], [2]], ((1,), (2,))), (None, None), ("row", "row"),
                          (5, 5), ({}, {})):
            for told in (Unlike(row), Unlike(row=row)):
                self.assertEqual((told.word, told.parts, told.row, bool(told)), ("unlike", (kept,), kept, False))
                self.assertIsInstance(told, Denial)
                self.assertEqual(told, Unlike(kept))
                self.assertNotEqual(told, Same())
                self.assertNotEqual(told, Denial("unlike", row))
        self.assertNotEqual(Unlike((1, 0)), Unlike((0, 1)))


class TestJudged(Refusals):

    def check(self, one, other, clock):
        """Same() or an Unlike, by the spaces of both; whether it is Same()."""
        told = judged_same(one, other, clock)
        left, right = through(one, clock), through(other, clock)
        if left == right:
            self.assertIs(type(told), Same)
        else:
            self.assertIs(type(told), Unlike)
            self.assertIsInstance(told.row, tuple)
            self.assertEqual([holds(left, told.row), holds(right, told.row)].count(True), 1)
        again = judged_same(Tangle(one.ends, [list(deed) for deed in one.deeds]), other, clock)
        self.assertEqual(again, told)
        return bool(told)

    def test_each_marks_tried(self):
        counts = {True: 0, False: 0}
        told = few_deeds(240, 6, 50)
        for (ends, deeds), (others, other_deeds) in itertools.combinations(told, 2):
            if ends != others:
                continue
            rows = []
            for each in (deeds, other_deeds):
                rim, found = told_markings(3, ends, each)
                rows.append({tuple(marks[region] for region in rim) for marks in found})
            paper = judged_same(Tangle(ends, deeds), Tangle(ends, other_deeds), 3)
            self.assertIs(bool(paper), rows[0] == rows[1])
            if not paper:
                self.assertEqual((paper.row in rows[0]) + (paper.row in rows[1]), 1)
            counts[bool(paper)] += 1
        self.assertGreater(min(counts.values()), 20)

    def test_by_chance(self):
        counts = {True: 0, False: 0}
        for one, other in itertools.chain(pairs(241), pairs(242, 6)):
            for clock in (3, 7, 31):
                counts[self.check(one, other, clock)] += 1
                self.assertIs(self.check(other, one, clock), self.check(one, other, clock))
        self.assertGreater(min(counts.values()), 50)

    def test_no_ends_and_two_always_say_the_same(self):
        for one, other in pairs(243):
            if one.ends <= 2:
                for clock in CLOCKS:
                    self.assertEqual(judged_same(one, other, clock), Same())

    def test_moves_do_not_part(self):
        for ends, deeds in many_deeds(244, 6):
            tangle = Tangle(ends, deeds)
            self.assertEqual(judged_same(tangle, pulled(tangle), 5), Same())
            for at in range(len(deeds)):
                for word in moves_at(tangle, at):
                    self.assertEqual(judged_same(tangle, moved(tangle, at, word), 5), Same())

    def test_twists(self):
        # Twists say the same if the clock divides the difference of their crossings.
        for clock in (3, 5, 7, 31):
            tangles = [Tangle(4, [("over", 1)] * many + list(SIDE.deeds)) for many in range(0, 12)]
            for (many, one), (more, other) in itertools.product(enumerate(tangles), repeat=2):
                self.assertIs(self.check(one, other, clock), (many - more) % clock == 0)

    def test_all_fair_spaces(self):
        tangles = [tied(space) for space in fair_spaces(3, 4) + fair_spaces(3, 6)[:6]]
        for (at, one), (by, other) in itertools.product(enumerate(tangles), repeat=2):
            if one.ends == other.ends:
                self.assertIs(self.check(one, other, 3), at == by)

    def test_turned(self):
        source = random.Random(245)
        for ends in (4, 6, 8):
            tangle = Tangle(ends, some_deeds(ends, 14, source))
            for gap in range(ends):
                other = turned(tangle, gap)
                self.assertIs(self.check(tangle, other, 3), set(rows_in(through(tangle, 3))) == set(
                    rows_in(through(other, 3))))

    def test_closings_tell_it(self):
        # Whatever third one they are closed by: the depths differ by what the free depths do.
        for one, other in pairs(246, 8):
            if one.ends != 4:
                continue
            thirds = [tied(space) for space in fair_spaces(5, 4)]
            free = free_depth(one, 5) - free_depth(other, 5)
            told = [closed_depth(one, third, 5) - closed_depth(other, third, 5) == free for third in thirds]
            self.assertIs(bool(judged_same(one, other, 5)), all(told))


class TestTheGreatest(Soon, Refusals):

    def test_great_tangles(self):
        source = random.Random(247)
        for clock in (3, 31):
            for ends, many, most in ((4, 3990, 4), (2, 3990, 4), (0, 3990, 4), (16, 590, 18), (8, 590, 18)):
                one, other = [Tangle(ends, some_deeds(ends, many, source, most)) for _ in range(2)]
                with self.soon():
                    told = judged_same(one, other, clock)
                self.assertIs(bool(told), through(one, clock) == through(other, clock))
                # Just as many overs and unders more.
                more = Tangle(ends, [("over", 0), ("under", 0), *one.deeds] if ends else one.deeds)
                self.assertEqual(judged_same(one, more, clock), Same())

    def test_more_regions_than_markings_are_told_for(self):
        one, other = Tangle(*tangle_of_regions(4, 401)), Tangle(*tangle_of_regions(4, 402))
        self.assertEqual([judged_same(one, other, 3).word, judged_same(one, one, 3).word], ["same", "same"])


class TestRefusals(Refusals):

    def test_no_tangle(self):
        for value in NO_TANGLES:
            self.refused(BadTangle, "one", judged_same, value, PLAIN, 5)
            self.refused(BadTangle, "other", judged_same, PLAIN, value, 5)

    def test_no_clock(self):
        for value in NO_CLOCKS:
            self.refused(BadClock, "clock", judged_same, PLAIN, SIDE, value)

    def test_other_ends(self):
        tangles = [Tangle(ends, [("join", 1)] * (ends // 2)) for ends in range(0, 17, 2)]
        for one, other in itertools.permutations(tangles, 2):
            self.refused(Misfit, "other", judged_same, one, other, 3)

    def test_the_first_wrong_one_is_refused(self):
        small = Tangle(2, [("join", 1)])
        self.refused(BadTangle, "one", judged_same, None, None, None)
        self.refused(BadTangle, "other", judged_same, clock=4, other=(4, ()), one=PLAIN)
        self.refused(BadClock, "clock", judged_same, PLAIN, small, 9)


if __name__ == "__main__":
    unittest.main()
