"""Promises 4 and 7: the first crossing whose rule marks do not keep, and the space of all markings."""

import itertools
import random
import unittest

from ropesays.errors import BadClock, BadRow, BadTangle
from ropesays.markings import broken_at, markings
from ropesays.regions import crossings_of, regions_of
from ropesays.spaces import Space, holds, rows_in
from ropesays.tangles import Tangle
from tests.fills import deeds_of_regions, few_deeds, tangle_of_regions, told_kept, told_markings
from tests.knots import many_deeds, some_deeds
from tests.odd import CLOCKS, NO_CLOCKS, NO_INTEGERS, NO_LISTS
from tests.refusals import Refusals
from tests.soon import Soon
from tests.test_tangles import NO_TANGLES

CROSS = Tangle(4, [("over", 1), ("turn", 1), ("join", 1), ("join", 1)])
KNOT = Tangle(0, [("open", 0), ("open", 1), ("over", 1), ("over", 1), ("over", 1), ("join", 2), ("join", 1)])


class TestExamples(Refusals):

    def test_cross(self):
        self.assertEqual([crossings_of(CROSS), markings(CROSS, 5).rows],
                         [(("over", 0, 1, 2, 3),), ((1, 0, 0, 1), (0, 1, 0, 1), (0, 0, 1, 4))])
        told = [broken_at(CROSS, 5, marks) for marks in ((1, 2, 3, 0), [1, 2, 3, 4], (0, 0, 0, 0))]
        self.assertEqual(told, [None, 0, None])

    def test_knot(self):
        self.assertEqual([crossings_of(KNOT), markings(KNOT, 3).depth, markings(tangle=KNOT, clock=5).depth],
                         [(("over", 0, 1, 2, 3), ("over", 0, 3, 2, 4), ("over", 0, 4, 2, 1)), 3, 2])
        told = [broken_at(KNOT, 3, (0, 0, 1, 2, 1)), broken_at(marks=(0, 0, 1, 4, 3), clock=5, tangle=KNOT),
                broken_at(KNOT, 5, (0, 0, 1, 1, 1))]
        self.assertEqual(told, [None, 2, 0])

    def test_refusals(self):
        self.refused(BadRow, "marks", broken_at, CROSS, 5, (1, 2, 3))
        self.refused(BadClock, "clock", markings, CROSS, 9)


class TestRules(Refusals):

    def test_over_and_under(self):
        # The regions are left 0, out 1, right 2, inner 3.
        for word in ("over", "under"):
            tangle = Tangle(4, [(word, 1), *CROSS.deeds[1:]])
            for clock in (3, 5):
                for marks in itertools.product(range(clock), repeat=4):
                    left, out, right, inner = marks
                    sums = (left + out, right + inner) if word == "over" else (out + right, left + inner)
                    wanted = None if sums[0] % clock == sums[1] % clock else 0
                    self.assertEqual(broken_at(tangle, clock, marks), wanted)
                    self.assertIs(holds(markings(tangle, clock), marks), wanted is None)

    def test_left_and_right_are_one(self):
        # Such a crossing tells that out and inner are alike, be it over or under.
        for word in ("over", "under"):
            for gap in (0, 1):
                tangle = Tangle(2, [(word, gap), ("join", 1)])
                for marks in itertools.product(range(3), repeat=3):
                    _, left, out, right, inner = crossings_of(tangle)[0]
                    self.assertEqual(left, right)
                    self.assertEqual(broken_at(tangle, 3, marks), None if marks[out] == marks[inner] else 0)
                self.assertEqual(markings(tangle, 3).depth, 2)

    def test_the_first_broken_one(self):
        source = random.Random(30)
        met = set()
        for ends, deeds in itertools.chain(many_deeds(31), many_deeds(32, 6)):
            tangle = Tangle(ends, deeds)
            for clock in (3, 31):
                for _ in range(4):
                    marks = [source.randrange(clock) for _ in range(regions_of(tangle))]
                    kept = [told_kept(clock, each, marks) for each in crossings_of(tangle)]
                    wanted = kept.index(False) if False in kept else None
                    self.assertEqual(broken_at(tangle, clock, marks), wanted)
                    met.add(wanted)
        self.assertGreater(len(met), 4)

    def test_one_number_wrong_late(self):
        # Along a twist each crossing asks for the next number: so a wrong one breaks the crossing that makes it.
        tangle = Tangle(4, [("over", 1)] * 30 + [("join", 1), ("join", 1)])
        for marks in markings(tangle, 7).rows:
            for at, (_, _, _, _, inner) in enumerate(crossings_of(tangle)):
                wrong = list(marks)
                wrong[inner] = (wrong[inner] + 1) % 7
                self.assertEqual(broken_at(tangle, 7, wrong), at)


class TestMarkings(Refusals):

    def test_each_marks_tried(self):
        for ends, deeds in few_deeds(33, 7):
            tangle = Tangle(ends, deeds)
            _, wanted = told_markings(3, ends, deeds)
            told = markings(tangle, 3)
            self.assertIs(type(told), Space)
            self.assertEqual((told.clock, told.size), (3, regions_of(tangle)))
            self.assertEqual(3 ** told.depth, len(wanted))
            self.assertTrue(all(holds(told, marks) for marks in wanted))
            self.assertTrue(all(broken_at(tangle, 3, marks) is None for marks in wanted))
            if told.depth <= 6:
                self.assertEqual(list(rows_in(told)), wanted)

    def test_on_a_greater_clock(self):
        for clock, regions in ((5, 5), (7, 4), (31, 3)):
            for ends, deeds in few_deeds(34, regions, 12):
                told = markings(Tangle(ends, deeds), clock)
                _, wanted = told_markings(clock, ends, deeds)
                self.assertEqual(clock ** told.depth, len(wanted))
                self.assertTrue(all(holds(told, marks) for marks in wanted))

    def test_least_form(self):
        for ends, deeds in many_deeds(35):
            for clock in (3, 13):
                told = markings(Tangle(ends, deeds), clock)
                self.assertEqual(Space(clock, told.size, told.rows).rows, told.rows)
                self.assertEqual(told.depth, len(told.rows))

    def test_without_crossings_all_marks(self):
        for clock in CLOCKS:
            self.assertEqual(markings(Tangle(0, []), clock).rows, ((1,),))
            self.assertEqual(markings(Tangle(2, [("join", 1)]), clock).depth, 2)
            loops = Tangle(0, [("open", 0), ("join", 1)] * 6)
            self.assertEqual((markings(loops, clock).depth, markings(loops, clock).size), (7, 7))

    def test_all_alike_is_a_marking(self):
        for ends, deeds in many_deeds(36):
            tangle = Tangle(ends, deeds)
            for clock in (3, 31):
                self.assertTrue(holds(markings(tangle, clock), [2] * regions_of(tangle)))

    def test_as_many_as_crossings_leave(self):
        # Each crossing takes at most one from the depth.
        for ends, deeds in many_deeds(37):
            tangle = Tangle(ends, deeds)
            for clock in CLOCKS:
                self.assertGreaterEqual(markings(tangle, clock).depth, regions_of(tangle) - len(crossings_of(tangle)))


class TestTheGreatest(Soon, Refusals):

    def test_400_regions_and_401(self):
        for ends in range(0, 17, 2):
            most, more = [Tangle(*tangle_of_regions(ends, many)) for many in (400, 401)]
            self.assertEqual((regions_of(most), regions_of(more)), (400, 401))
            self.assertEqual(markings(most, 5).size, 400)
            self.assertEqual(broken_at(more, 5, [1] * 401), None)
            self.too_many("regions", 400, markings, more, 5)

    def test_400_regions_of_all_kinds(self):
        source = random.Random(38)
        for clock in (3, 31):
            for ends in (0, 16):
                deeds = deeds_of_regions(ends, 400, source, 24)
                tangle = Tangle(ends, deeds)
                self.assertEqual(regions_of(tangle), 400)
                with self.soon():
                    told = markings(tangle, clock)
                for marks in told.rows[:20]:
                    self.assertIs(broken_at(tangle, clock, marks), None)

    def test_80_regions(self):
        source = random.Random(39)
        for clock in CLOCKS:
            for ends in range(0, 17, 2):
                tangle = Tangle(ends, deeds_of_regions(ends, 80, source))
                self.assertEqual(regions_of(tangle), 80)
                told = markings(tangle, clock)
                self.assertTrue(all(broken_at(tangle, clock, marks) is None for marks in told.rows))

    def test_four_thousand_deeds(self):
        twist = Tangle(2, [("over", 1)] * 3999 + [("join", 1)])
        for tangle in (Tangle(0, some_deeds(0, 3988, random.Random(40))), twist):
            with self.soon():
                self.too_many("regions", 400, markings, tangle, 3)
                self.assertIs(broken_at(tangle, 31, [30] * regions_of(tangle)), None)
        marks = [30] * 4001
        marks[4000] = 29
        self.assertEqual(broken_at(twist, 31, marks), 3998)


class TestRefusals(Refusals):

    def test_no_tangle(self):
        for value in NO_TANGLES:
            self.refused(BadTangle, "tangle", markings, value, 5)
            self.refused(BadTangle, "tangle", broken_at, value, 5, (0,))

    def test_no_clock(self):
        for value in NO_CLOCKS:
            self.refused(BadClock, "clock", markings, CROSS, value)
            self.refused(BadClock, "clock", broken_at, CROSS, value, (0, 0, 0, 0))

    def test_no_marks(self):
        for value in ((), (0,), (0,) * 3, [0] * 5, (0, 0, 0, 5), (-1, 0, 0, 0), (0, 10 ** 40, 0, 0), ((0, 0), (0, 0)),
                      "0000", *NO_LISTS, *[(0, 0, 0, number) for number in NO_INTEGERS]):
            self.refused(BadRow, "marks", broken_at, CROSS, 5, value)
        self.refused(BadRow, "marks", broken_at, KNOT, 5, (0, 0, 0, 0))

    def test_the_first_wrong_one_is_refused(self):
        self.refused(BadTangle, "tangle", broken_at, None, 4, None)
        self.refused(BadClock, "clock", broken_at, CROSS, 4, None)
        self.refused(BadTangle, "tangle", markings, clock=4, tangle=None)
        more = Tangle(*tangle_of_regions(2, 401))
        self.refused(BadClock, "clock", markings, more, 4)

    def test_what_is_passed_stays(self):
        marks = [1, 2, 3, 4]
        broken_at(CROSS, 5, marks)
        self.assertEqual(marks, [1, 2, 3, 4])


if __name__ == "__main__":
    unittest.main()
