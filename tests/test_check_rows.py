"""Promises 2, 3, 5 and 7: which values are right papers on a row."""

import itertools
import random
import unittest

from ropesays.check_rows import shows_row
from ropesays.errors import BadClock, BadRow, BadTangle
from ropesays.papers import Denial, Paper
from ropesays.regions import crossings_of, regions_of, rim_of
from ropesays.rows import Barred, Filled, judged_row
from ropesays.tangles import Tangle
from tests.fills import deeds_of_regions, few_deeds, tangle_of_regions, told_kept
from tests.knots import many_deeds
from tests.odd import NO_CLOCKS, NO_INTEGERS, NO_LISTS
from tests.refusals import Refusals
from tests.soon import Soon
from tests.test_markings import CROSS, KNOT
from tests.test_rims import told_swing
from tests.test_tangles import NO_TANGLES


class Closer(Filled):
    """Made by calling a class below Filled, so it is no Filled."""


class Tighter(Barred):
    """Likewise, no Barred."""


class Likely:
    """What looks like a paper."""

    def __init__(self, word, marks):
        self.word, self.parts, self.marks = word, (marks,), marks


def told_right(tangle, clock, row, value):
    """Whether a Filled or a Barred of some marks is right, as the document tells it."""
    kept = all(told_kept(clock, crossing, value.marks) for crossing in crossings_of(tangle))
    shown = [value.marks[region] for region in rim_of(tangle)]
    if value.word == "filled":
        return kept and shown == list(row)
    return kept and tangle.ends > 0 and told_swing(clock, shown, row) != 0


class TestExamples(Refusals):

    def test_cross(self):
        values = (Barred((1, 0, 0, 1)), Barred([0, 0, 1, 4]), Barred((0, 1, 0, 1)), Barred((1, 0, 0, 0)),
                  Filled((0, 0, 0, 1)), None)
        told = [shows_row(CROSS, 5, (0, 0, 0, 1), value) for value in values]
        self.assertEqual(told, [True, True, False, False, False, False])

    def test_knot(self):
        told = [shows_row(KNOT, 5, (2,), Filled([2, 0, 2, 0, 0])), shows_row(KNOT, 5, (2,), Filled((1, 0, 1, 0, 0))),
                shows_row(KNOT, 5, (2,), judged_row(KNOT, 5, (2,)))]
        self.assertEqual(told, [True, False, True])

    def test_refusals(self):
        self.refused(BadClock, "clock", shows_row, CROSS, 4, (0, 0, 0, 1), None)


class TestRightAndWrong(Refusals):

    def test_all_marks(self):
        counts = {True: 0, False: 0}
        for ends, deeds in few_deeds(80, 5, 30):
            tangle = Tangle(ends, deeds)
            rows = list(itertools.product(range(3), repeat=max(ends, 1)))
            for row in rows[::7]:
                for marks in itertools.product(range(3), repeat=regions_of(tangle)):
                    for value in (Filled(marks), Barred(marks)):
                        wanted = told_right(tangle, 3, row, value)
                        self.assertIs(shows_row(tangle, 3, row, value), wanted)
                        counts[wanted] += 1
        self.assertGreater(min(counts.values()), 1000)

    def test_judged_rows_are_shown(self):
        source = random.Random(81)
        words = []
        for ends, deeds in itertools.chain(many_deeds(82), many_deeds(83, 6)):
            tangle = Tangle(ends, deeds)
            for clock in (3, 31):
                rows = [[source.randrange(clock) for _ in range(max(ends, 1))] for _ in range(3)]
                for row in [*rows, [2] * max(ends, 1)]:
                    told = judged_row(tangle, clock, row)
                    self.assertIs(shows_row(value=told, row=row, clock=clock, tangle=tangle), True)
                    # The same marks the other way round: what shows the row agrees with it.
                    other = Barred(told.marks) if told else Filled(told.marks)
                    self.assertIs(shows_row(tangle, clock, row, other), False)
                    words.append(told.word)
        self.assertGreater(min(words.count("filled"), words.count("barred")), 100)

    def test_numbers_changed(self):
        source = random.Random(84)
        for ends, deeds in many_deeds(85):
            tangle = Tangle(ends, deeds)
            row = [source.randrange(5) for _ in range(max(ends, 1))]
            told = judged_row(tangle, 5, row)
            for at in range(len(told.marks)):
                marks = list(told.marks)
                marks[at] = (marks[at] + source.randrange(1, 5)) % 5
                changed = Filled(marks) if told else Barred(marks)
                self.assertIs(shows_row(tangle, 5, row, changed), told_right(tangle, 5, row, changed))

    def test_numbers_left_out_and_one_more(self):
        for tangle, row in ((CROSS, (1, 2, 3, 0)), (CROSS, (0, 0, 0, 1)), (KNOT, (2,)), (Tangle(0, []), (1,))):
            told = judged_row(tangle, 5, row)
            kind = Filled if told else Barred
            marks = list(told.marks)
            self.assertIs(shows_row(tangle, 5, row, kind(marks)), True)
            for wrong in ([], marks[:-1], marks[1:], marks + [0], [0] + marks, marks + marks, [marks], (marks, marks)):
                self.assertIs(shows_row(tangle, 5, row, kind(wrong)), False)

    def test_none_without_ends_does_not_agree(self):
        for tangle in (Tangle(0, []), KNOT):
            for marks in itertools.product(range(3), repeat=regions_of(tangle)):
                self.assertIs(shows_row(tangle, 3, (1,), Barred(marks)), False)


class TestAnyValue(Refusals):

    def test_odd_numbers(self):
        # The marks (1, 0, 1, 0) show the row, those of (1, 0, 0, 1) one that does not agree.
        for row, kind, marks in (((1, 0, 1, 0), Filled, (1, 0, 1, 0)), ((0, 0, 0, 1), Barred, (1, 0, 0, 1))):
            self.assertIs(shows_row(CROSS, 5, row, kind(marks)), True)
            self.assertIs(shows_row(CROSS, 5, row, kind(list(marks))), True)
            for at in range(4):
                for wrong in (*NO_INTEGERS, marks[at] + 5, marks[at] - 5, str(marks[at]), float(marks[at]),
                              bool(marks[at]), (marks[at],)):
                    changed = [*marks[:at], wrong, *marks[at + 1:]]
                    self.assertIs(shows_row(CROSS, 5, row, kind(changed)), False)

    def test_no_marks(self):
        for value in (*NO_LISTS, "1010", b"\x01\x00\x01\x00", range(4), {0: 1, 1: 0, 2: 1, 3: 0}, iter((1, 0, 1, 0)),
                      Filled((1, 0, 1, 0)), Barred((1, 0, 0, 1))):
            for kind in (Filled, Barred):
                self.assertIs(shows_row(CROSS, 5, (1, 0, 1, 0), kind(value)), False)
                self.assertIs(shows_row(CROSS, 5, (0, 0, 0, 1), kind(value)), False)

    def test_other_classes(self):
        filled, barred = (1, 0, 1, 0), (1, 0, 0, 1)
        for row, wrong in ((filled, (filled, list(filled), Paper("filled", filled), Denial("filled", filled),
                                     Closer(filled), Likely("filled", filled), Filled, True, "filled")),
                           ((0, 0, 0, 1), (barred, list(barred), Paper("barred", barred), Denial("barred", barred),
                                           Tighter(barred), Likely("barred", barred), Barred, False, "barred"))):
            for value in (*wrong, *NO_INTEGERS, *NO_LISTS):
                self.assertIs(shows_row(CROSS, 5, row, value), False)

    def test_lists_for_tuples(self):
        deeds = [list(deed) for deed in CROSS.deeds]
        told = shows_row(Tangle(4, deeds), 5, [1, 0, 1, 0], Filled([1, 0, 1, 0]))
        self.assertIs(told, True)

    def test_what_is_passed_stays(self):
        row, value = [0, 0, 0, 1], Barred([1, 0, 0, 1])
        shows_row(CROSS, 5, row, value)
        self.assertEqual((row, value.marks, value.parts), ([0, 0, 0, 1], (1, 0, 0, 1), ((1, 0, 0, 1),)))


class TestTheGreatest(Soon, Refusals):

    def test_80_regions(self):
        source = random.Random(86)
        for clock in (3, 31):
            for ends in range(0, 17, 2):
                tangle = Tangle(ends, deeds_of_regions(ends, 80, source))
                row = [source.randrange(clock) for _ in range(max(ends, 1))]
                self.assertIs(shows_row(tangle, clock, row, judged_row(tangle, clock, row)), True)

    def test_400_regions_and_401(self):
        for ends in (0, 2, 4, 16):
            most, more = [Tangle(*tangle_of_regions(ends, many)) for many in (400, 401)]
            row = [1] * max(ends, 1)
            with self.soon():
                self.assertIs(shows_row(most, 3, row, Filled([1] * 400)), True)
                self.assertIs(shows_row(most, 3, row, Filled([1] * 399 + [2])), ends == 0)
            for value in (Filled([1] * 401), Barred([1] * 401), None):
                self.too_many("regions", 400, shows_row, more, 3, row, value)


class TestRefusals(Refusals):

    def test_no_tangle(self):
        for value in NO_TANGLES:
            self.refused(BadTangle, "tangle", shows_row, value, 5, (0,), Filled((0,)))

    def test_no_clock(self):
        for value in NO_CLOCKS:
            self.refused(BadClock, "clock", shows_row, CROSS, value, (0, 0, 0, 0), Filled((0, 0, 0, 0)))

    def test_no_row(self):
        for value in ((), [0] * 3, (0,) * 5, (0, 0, 0, 5), (-1, 0, 0, 0), "0000", *NO_LISTS,
                      *[(number, 0, 0, 0) for number in NO_INTEGERS]):
            self.refused(BadRow, "row", shows_row, CROSS, 5, value, Filled((0, 0, 0, 0)))

    def test_the_first_wrong_one_is_refused(self):
        more = Tangle(*tangle_of_regions(4, 401))
        self.refused(BadTangle, "tangle", shows_row, None, 4, None, None)
        self.refused(BadClock, "clock", shows_row, more, 4, None, None)
        self.refused(BadRow, "row", shows_row, more, 5, (0, 0, 0), None)
        self.refused(BadRow, "row", shows_row, value=None, row=(0,) * 5, clock=5, tangle=more)


if __name__ == "__main__":
    unittest.main()
