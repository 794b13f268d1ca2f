"""Promises 5 and 7: the marking that shows a row, or one that shows a row which does not agree with it."""

import itertools
import random
import unittest

from ropesays.errors import BadClock, BadRow, BadTangle
from ropesays.papers import Denial, Paper
from ropesays.regions import regions_of, rim_of
from ropesays.rows import Barred, Filled, judged_row
from ropesays.spaces import holds, rows_in
from ropesays.tangles import Tangle
from ropesays.through import through
from tests.fills import deeds_of_regions, few_deeds, tangle_of_regions, told_markings
from tests.knots import many_deeds
from tests.odd import CLOCKS, NO_CLOCKS, NO_INTEGERS, NO_LISTS
from tests.refusals import Refusals
from tests.soon import Soon
from tests.test_markings import CROSS, KNOT, told_kept
from tests.test_regions import told_floor
from tests.test_rims import told_swing
from tests.test_tangles import NO_TANGLES
from tests.test_through import CURL


class Judged(Refusals):

    def check(self, tangle, clock, row, crossings):
        """A paper is right by the rules as the document tells them, and says what is let through."""
        told = judged_row(tangle, clock, row)
        self.assertEqual(len(told.marks), regions_of(tangle))
        self.assertTrue(all(type(number) is int and 0 <= number < clock for number in told.marks))
        self.assertTrue(all(told_kept(clock, each, told.marks) for each in crossings))
        shown = tuple(told.marks[region] for region in rim_of(tangle))
        if holds(through(tangle, clock), row):
            self.assertIs(type(told), Filled)
            self.assertEqual(shown, tuple(row))
        else:
            self.assertIs(type(told), Barred)
            self.assertNotEqual(told_swing(clock, shown, row), 0)
        return told


class TestExamples(Refusals):

    def test_cross(self):
        told = [judged_row(CROSS, 5, (1, 2, 3, 0)).marks, judged_row(CROSS, 5, [0, 0, 0, 1]).word,
                bool(judged_row(row=(0, 0, 0, 1), clock=5, tangle=CROSS))]
        self.assertEqual(told, [(1, 2, 3, 0), "barred", False])

    def test_curl(self):
        told = judged_row(CURL, 5, (4, 3, 4, 1))
        self.assertEqual([told.word, told.marks, judged_row(KNOT, 5, (2,)).word], ["filled", (4, 3, 1, 3), "filled"])

    def test_refusals(self):
        self.refused(BadRow, "row", judged_row, CROSS, 5, (1, 2, 3))
        self.refused(BadRow, "row", judged_row, KNOT, 5, ())


class TestPapers(Refusals):

    def test_what_they_keep(self):
        for kind, word in ((Filled, "filled"), (Barred, "barred")):
            for paper in (kind([1, [2]]), kind(marks=(1, (2,)))):
                self.assertEqual((paper.word, paper.parts, paper.marks), (word, ((1, (2,)),), (1, (2,))))
            for value in (None, True, 0, "marks", {}, kind, kind([])):
                self.assertEqual((kind(value).marks, kind(value).parts), (value, (value,)))

    def test_truth_and_classes(self):
        self.assertIs(bool(Filled([])), True)
        self.assertIs(bool(Barred([0, 1])), False)
        self.assertIsInstance(Filled([]), Paper)
        self.assertNotIsInstance(Filled([]), Denial)
        self.assertIsInstance(Barred([]), Denial)

    def test_equality(self):
        self.assertIs(Filled([1, 2]) == Filled((1, 2)), True)
        self.assertIs(Barred([1, 2]) == Barred((1, 2)), True)
        for one, other in ((Filled([1]), Filled([2])), (Filled([1]), Barred([1])), (Filled([1]), Paper("filled", [1])),
                           (Barred([1]), Denial("barred", [1])), (Filled([1]), (1,)), (Barred([1]), None)):
            self.assertIs(one == other, False)
            self.assertIs(other == one, False)
            self.assertIs(one != other, True)

    def test_changes_behind_it_leave_a_paper(self):
        marks = [1, 2]
        papers = (Filled(marks), Barred(marks))
        marks.append(3)
        self.assertEqual([paper.marks for paper in papers], [(1, 2)] * 2)


class TestEachRow(Judged):

    def test_each_row_of_few_regions(self):
        met = set()
        for ends, deeds in few_deeds(70, 7):
            if ends <= 4:
                tangle = Tangle(ends, deeds)
                rim, found = told_markings(3, ends, deeds)
                let = {tuple(marks[region] for region in rim) for marks in found}
                crossings = told_floor(ends, deeds)[1]
                for row in itertools.product(range(3), repeat=max(ends, 1)):
                    told = self.check(tangle, 3, row, crossings)
                    self.assertIs(bool(told), row in let)
                    met.add((told.word, ends))
        # Without ends, and with two, all is let through.
        self.assertEqual(met, {("filled", ends) for ends in (0, 2, 4)} | {("barred", 4)})

    def test_each_row_of_six_gaps(self):
        tangle = Tangle(6, [("over", 1), ("under", 4), ("over", 0), ("join", 2), ("over", 1), ("join", 1), ("join", 1)])
        crossings = told_floor(6, tangle.deeds)[1]
        words = [self.check(tangle, 3, row, crossings).word for row in itertools.product(range(3), repeat=6)]
        self.assertEqual((words.count("filled"), words.count("barred")), (81, 648))

    def test_rows_by_chance(self):
        source = random.Random(71)
        for ends, deeds in itertools.chain(many_deeds(72), many_deeds(73, 6)):
            tangle = Tangle(ends, deeds)
            crossings = told_floor(ends, deeds)[1]
            for clock in (3, 31):
                let = through(tangle, clock).rows
                times = [source.randrange(clock) for _ in let]
                row = [sum(k * each[at] for k, each in zip(times, let)) % clock for at in range(max(ends, 1))]
                self.assertEqual(self.check(tangle, clock, row, crossings).word, "filled")
                row[source.randrange(len(row))] = source.randrange(clock)
                self.check(tangle, clock, row, crossings)

    def test_rows_that_are_nearly_let_through(self):
        # Each single number of a row that is let through is changed.
        source = random.Random(74)
        for ends, deeds in many_deeds(75):
            tangle = Tangle(ends, deeds)
            crossings = told_floor(ends, deeds)[1]
            for row in through(tangle, 5).rows:
                for at in range(len(row)):
                    changed = list(row)
                    changed[at] = (changed[at] + source.randrange(1, 5)) % 5
                    self.check(tangle, 5, changed, crossings)

    def test_again(self):
        for ends, deeds in few_deeds(76, 12, 30):
            tangle, again = Tangle(ends, deeds), Tangle(ends, [list(deed) for deed in deeds])
            for row in list(itertools.product(range(3), repeat=max(ends, 1)))[::37]:
                told = judged_row(tangle, 3, row)
                self.assertEqual(judged_row(tangle, 3, list(row)), told)
                self.assertEqual(judged_row(row=row, clock=3, tangle=again), told)

    def test_tangles_without_ends(self):
        for clock in CLOCKS:
            for number in range(clock):
                told = judged_row(Tangle(0, []), clock, [number])
                self.assertEqual(told, Filled((number,)))
                self.assertEqual(self.check(KNOT, clock, (number,), told_floor(0, KNOT.deeds)[1]).word, "filled")

    def test_what_is_passed_stays(self):
        row = [0, 0, 0, 1]
        judged_row(CROSS, 5, row)
        self.assertEqual(row, [0, 0, 0, 1])


class TestTheGreatest(Soon, Judged):

    def test_80_regions(self):
        source = random.Random(77)
        for clock in (3, 13, 31):
            for ends in range(0, 17, 2):
                deeds = deeds_of_regions(ends, 80, source)
                tangle = Tangle(ends, deeds)
                self.assertEqual(regions_of(tangle), 80)
                crossings = told_floor(ends, deeds)[1]
                self.check(tangle, clock, [source.randrange(clock) for _ in range(max(ends, 1))], crossings)
                for row in through(tangle, clock).rows:
                    self.check(tangle, clock, row, crossings)

    def test_400_regions_and_401(self):
        for ends in (0, 2, 4, 16):
            most, more = [Tangle(*tangle_of_regions(ends, many)) for many in (400, 401)]
            row = [1] * max(ends, 1)
            with self.soon():
                self.assertEqual(judged_row(most, 3, row).word, "filled")
            self.too_many("regions", 400, judged_row, more, 3, row)

    def test_each_row_of_few_markings(self):
        # Free markings do not hide what is let through.
        tangle = Tangle(4, [("open", 0), ("join", 1)] * 70 + [("over", 1), ("turn", 1), ("join", 1), ("join", 1)])
        crossings = told_floor(4, tangle.deeds)[1]
        let = set(rows_in(through(tangle, 3)))
        for row in itertools.product(range(3), repeat=4):
            self.assertIs(bool(self.check(tangle, 3, row, crossings)), row in let)


class TestRefusals(Refusals):

    def test_no_tangle(self):
        for value in NO_TANGLES:
            self.refused(BadTangle, "tangle", judged_row, value, 5, (0,))

    def test_no_clock(self):
        for value in NO_CLOCKS:
            self.refused(BadClock, "clock", judged_row, CROSS, value, (0, 0, 0, 0))

    def test_no_row(self):
        for value in ((), (0,), [0] * 3, (0,) * 5, (0, 0, 0, 5), (-1, 0, 0, 0), (10 ** 40, 0, 0, 0), "0000",
                      ((0, 0), (0, 0)), *NO_LISTS, *[(0, 0, number, 0) for number in NO_INTEGERS]):
            self.refused(BadRow, "row", judged_row, CROSS, 5, value)
        for value in ((), (0, 0), (5,), 0, ((0,),)):
            self.refused(BadRow, "row", judged_row, KNOT, 5, value)

    def test_the_first_wrong_one_is_refused(self):
        more = Tangle(*tangle_of_regions(4, 401))
        self.refused(BadTangle, "tangle", judged_row, None, 4, None)
        self.refused(BadClock, "clock", judged_row, more, 4, None)
        self.refused(BadRow, "row", judged_row, more, 5, (0, 0, 0))
        self.refused(BadRow, "row", judged_row, row=(0, 0, 0, True), clock=5, tangle=more)


if __name__ == "__main__":
    unittest.main()
