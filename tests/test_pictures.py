"""Promises 2, 7 and 14: the lines of a picture, with regions and with marks."""

import itertools
import random
import unittest

from ropesays.errors import BadClock, BadRow, BadTangle
from ropesays.markings import broken_at, markings
from ropesays.pictures import filled, picture
from ropesays.regions import regions_of
from ropesays.tangles import Tangle
from tests.fills import tangle_of_regions
from tests.knots import greatest_deeds, many_deeds
from tests.odd import CLOCKS, NO_CLOCKS, NO_INTEGERS, NO_LISTS
from tests.refusals import Refusals
from tests.soon import Soon
from tests.test_regions import told_floor
from tests.test_tangles import NO_TANGLES

CROSS = Tangle(4, [("over", 1), ("turn", 1), ("join", 1), ("join", 1)])


def told_lines(ends, deeds, marks=None):
    """The lines of a picture, from the rings as the document tells them."""
    rings = told_floor(ends, deeds)[0]
    lines = []
    for deed, ring in zip([None, *deeds], rings):
        numbers = [str(region if marks is None else marks[region]) for region in ring]
        head = ["rim"] if deed is None else [deed[0], str(deed[1]), ">"]
        lines.append(" ".join(head + numbers))
    return lines


def told_filled(clock, ends, deeds, marks):
    """The lines with marks, and with both sums of each crossing, from the numbers on the rings beside it."""
    rings = told_floor(ends, deeds)[0]
    lines = told_lines(ends, deeds, marks)
    for at, (word, gap) in enumerate(deeds):
        if word not in ("over", "under"):
            continue
        ahead, behind = [[marks[region] for region in ring] for ring in rings[at:at + 2]]
        # Over: the upper rope comes from the end ahead of the gap, and goes to the end behind it.
        last, come = (gap - 1) % len(ahead), (gap + 1) % len(ahead)
        one, other = (last, gap) if word == "over" else (gap, come)
        third, fourth = (gap, come) if word == "over" else (last, gap)
        alike = (ahead[one] + ahead[other] - behind[third] - behind[fourth]) % clock == 0
        lines[at + 1] += (f" : {ahead[one]} + {ahead[other]} {'is' if alike else 'is not'}"
                          f" {behind[third]} + {behind[fourth]}")
    return lines


class TestExamples(Refusals):

    def test_picture(self):
        wanted = ("rim 0 1 2 3", "over 1 > 0 3 2 3", "turn 1 > 3 2 3 0", "join 1 > 3 0", "join 1 > 3")
        self.assertEqual(picture(CROSS), wanted)

    def test_filled(self):
        wanted = ("rim 1 2 4 4", "over 1 > 1 4 4 4 : 1 + 2 is 4 + 4", "turn 1 > 4 4 4 1", "join 1 > 4 1", "join 1 > 4")
        self.assertEqual(filled(CROSS, 5, [1, 2, 4, 4]), wanted)
        self.assertEqual(filled(CROSS, 5, [1, 2, 3, 1])[1], "over 1 > 1 1 3 1 : 1 + 2 is not 1 + 3")


class TestPicture(Soon, Refusals):

    def test_as_told(self):
        for ends, deeds in itertools.chain(many_deeds(290), many_deeds(291, 6)):
            told = picture(tangle=Tangle(ends, deeds))
            self.assertIs(type(told), tuple)
            self.assertEqual(told, tuple(told_lines(ends, deeds)))

    def test_small_ones(self):
        self.assertEqual(picture(Tangle(0, [])), ("rim 0",))
        self.assertEqual(picture(Tangle(2, [("join", 1)])), ("rim 0 1", "join 1 > 0"))
        self.assertEqual(picture(Tangle(0, [("open", 0), ("join", 1)])), ("rim 0", "open 0 > 0 1", "join 1 > 0"))

    def test_great_ones(self):
        tangle = Tangle(0, greatest_deeds())
        with self.soon():
            told = picture(tangle)
        self.assertEqual((len(told), told[:2], told[-1]), (4001, ("rim 0", "open 0 > 0 1"), "join 1 > " + told[-1][9:]))
        self.assertEqual([len(line.split(" ")) for line in told[:13]], [2] + [3 + 2 * many for many in range(1, 13)])

    def test_no_tangle(self):
        for value in NO_TANGLES:
            self.refused(BadTangle, "tangle", picture, value)


class TestFilled(Soon, Refusals):

    def test_right_and_wrong(self):
        source = random.Random(292)
        signs = {"is": 0, "is not": 0}
        for ends, deeds in itertools.chain(many_deeds(293), many_deeds(294, 6)):
            tangle = Tangle(ends, deeds)
            for clock in (3, 31):
                size = regions_of(tangle)
                right = [0] * size
                for row in markings(tangle, clock).rows:
                    times = source.randrange(clock)
                    right = [(number + times * more) % clock for number, more in zip(right, row)]
                for marks in (right, tuple(source.randrange(clock) for _ in range(size))):
                    told = filled(marks=marks, clock=clock, tangle=tangle)
                    self.assertIs(type(told), tuple)
                    self.assertEqual(told, tuple(told_filled(clock, ends, deeds, marks)))
                    broken = [line for line in told if "is not" in line]
                    self.assertIs(broken == [], broken_at(tangle, clock, marks) is None)
                    for sign in signs:
                        signs[sign] += len([line for line in told if sign in line])
        self.assertGreater(min(signs.values()), 300)

    def test_both_words_at_each_gap(self):
        for word, gap in itertools.product(("over", "under"), range(4)):
            deeds = [(word, gap), ("turn", gap), ("turn", 3), ("join", 2), ("join", 1)]
            tangle = Tangle(4, deeds)
            for marks in itertools.product(range(3), repeat=regions_of(tangle)):
                self.assertEqual(filled(tangle, 3, marks), tuple(told_filled(3, 4, deeds, marks)))

    def test_on_two_ends(self):
        # Left and right are one region: so out and inner are alike, if the rule is kept.
        for word, wanted in (("over", "over 0 > {} 1 : 1 + 2 {} {} + 1"),
                             ("under", "under 0 > {} 1 : 2 + 1 {} 1 + {}")):
            tangle = Tangle(2, [(word, 0), ("join", 1)])
            for inner in range(3):
                sign = "is" if inner == 2 else "is not"
                self.assertEqual(filled(tangle, 3, (2, 1, inner))[1], wanted.format(inner, sign, inner))

    def test_what_is_passed_stays(self):
        marks = [1, 2, 3, 1]
        filled(CROSS, 5, marks)
        self.assertEqual(marks, [1, 2, 3, 1])

    def test_more_regions_than_markings_are_told_for(self):
        tangle = Tangle(*tangle_of_regions(4, 401))
        told = filled(tangle, 3, [1] * 401)
        self.assertEqual((len(told), told[1]), (401, "over 1 > 1 1 1 1 : 1 + 1 is 1 + 1"))
        great = Tangle(0, greatest_deeds())
        with self.soon():
            told = filled(great, 31, [7] * regions_of(great))
        self.assertEqual(len([line for line in told if " : 7 + 7 is 7 + 7" in line]), 3 * 994)

    def test_no_clock(self):
        for value in NO_CLOCKS:
            self.refused(BadClock, "clock", filled, CROSS, value, (0, 0, 0, 0))

    def test_no_tangle(self):
        for value in NO_TANGLES:
            self.refused(BadTangle, "tangle", filled, value, 5, (0, 0, 0, 0))

    def test_no_marks(self):
        for value in ((), [0] * 3, [0] * 5, (0, 0, 0, 5), (-1, 0, 0, 0), "0000", *NO_LISTS):
            self.refused(BadRow, "marks", filled, CROSS, 5, value)
        for number in NO_INTEGERS:
            self.refused(BadRow, "marks", filled, CROSS, 5, [0, 0, number, 0])
        for clock in CLOCKS:
            self.refused(BadRow, "marks", filled, CROSS, clock, (0, 0, 0, clock))
            self.assertEqual(filled(CROSS, clock, (0, 0, 0, clock - 1))[4], f"join 1 > {clock - 1}")

    def test_the_first_wrong_one_is_refused(self):
        self.refused(BadTangle, "tangle", filled, None, None, None)
        self.refused(BadClock, "clock", filled, CROSS, 4, None)
        self.refused(BadClock, "clock", filled, marks=(0,), clock="5", tangle=CROSS)
        self.refused(BadRow, "marks", filled, marks=(0,), clock=5, tangle=CROSS)


if __name__ == "__main__":
    unittest.main()
