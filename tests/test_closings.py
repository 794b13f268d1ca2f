"""Promises 2, 4, 6, 7 and 12: images of tangles, closed tangles, and how deep their markings are."""

import itertools
import random
import unittest

from ropesays.closings import closed, closed_depth, depths_of, lead_in
from ropesays.errors import BadClock, BadTangle, Misfit
from ropesays.markings import markings
from ropesays.regions import regions_of
from ropesays.spaces import meeting
from ropesays.tangles import Tangle, turned
from ropesays.through import free_depth, through
from tests.fills import deeds_of_regions, few_deeds, tangle_of_regions, told_markings
from tests.knots import greatest_deeds, many_deeds, some_deeds, told_ends
from tests.odd import CLOCKS, NO_CLOCKS
from tests.refusals import Refusals
from tests.soon import Soon
from tests.test_tangles import NO_TANGLES

PLAIN = Tangle(4, [("join", 1), ("join", 1)])
SIDE = Tangle(4, [("turn", 1), ("join", 1), ("join", 1)])
THRICE = Tangle(4, [("over", 1)] * 3 + [("turn", 1), ("join", 1), ("join", 1)])


def told_image(ends, deeds):
    """The deeds by which an image leads in, as the document's table tells them."""
    told, many = [], ends
    for word, gap in deeds:
        told.insert(0, {
            "over": ("under", gap), "under": ("over", gap), "join": ("open", gap - 1), "open": ("join", gap + 1),
            "turn": ("turn", many - gap if gap else 0),
        }[word])
        many = told_ends(word, many)
    return tuple(told)


def of_few_regions(ends, many, source):
    """Many deeds on rings of at most four ends that make few regions: turns, and bends on rings of two ends."""
    deeds = [] if ends else [("open", 0)]
    now = ends or 2
    while len(deeds) < many:
        if source.random() < 0.5:
            deeds.append(("turn", source.randrange(now)))
        elif now == 2:
            deeds += source.choice(([("open", 0), ("join", 2)], [("open", 1), ("join", 1)]))
        elif source.random() < 0.01:
            deeds.append(("join", source.choice((1, 2))))
            now = 2
    return deeds + [("over", 0)] + [("join", 1)] * (now // 2)


class TestExamples(Refusals):

    def test_lead_in(self):
        told = [lead_in(PLAIN), lead_in(SIDE), lead_in(THRICE)[2:4]]
        self.assertEqual(told, [(("open", 0), ("open", 0)), (("open", 0), ("open", 0), ("turn", 3)),
                                (("turn", 3), ("under", 1))])

    def test_closed(self):
        told = [closed(PLAIN, SIDE).deeds, closed(PLAIN, SIDE).ends, closed_depth(PLAIN, PLAIN, 5),
                closed_depth(PLAIN, SIDE, 5)]
        self.assertEqual(told, [(("open", 0), ("open", 0), ("turn", 3), ("join", 1), ("join", 1)), 0, 3, 2])

    def test_depths(self):
        told = [depths_of(closed(THRICE, SIDE)), closed_depth(THRICE, SIDE, 3),
                closed_depth(clock=5, other=SIDE, one=THRICE)]
        self.assertEqual(told, [(3, 2, 2, 2, 2, 2, 2, 2, 2, 2), 3, 2])
        told = [depths_of(closed(PLAIN, PLAIN))[:2], closed_depth(THRICE, THRICE, 7), closed_depth(THRICE, PLAIN, 3)]
        self.assertEqual(told, [(3, 3), 3, 2])

    def test_refusals(self):
        self.refused(Misfit, "other", closed, PLAIN, Tangle(2, [("join", 1)]))
        self.refused(BadTangle, "other", closed_depth, PLAIN, None, 5)


class TestLeadIn(Refusals):

    def test_by_hand(self):
        tangle = Tangle(4, [("over", 3), ("open", 2), ("turn", 2), ("under", 0), ("turn", 0), ("join", 4), ("join", 2),
                            ("turn", 1), ("join", 1), ("open", 0), ("turn", 1), ("join", 1)])
        wanted = [("open", 0), ("turn", 1), ("join", 1), ("open", 0), ("turn", 1), ("open", 1), ("open", 3),
                  ("turn", 0), ("over", 0), ("turn", 4), ("join", 3), ("under", 3)]
        self.assertEqual(lead_in(tangle=tangle), tuple(wanted))
        self.assertEqual(lead_in(Tangle(0, [])), ())
        self.assertEqual(lead_in(Tangle(2, [("join", 1)])), (("open", 0),))

    def test_as_told(self):
        for ends, deeds in itertools.chain(many_deeds(230), many_deeds(231, 6), [(0, greatest_deeds())]):
            tangle = Tangle(ends, deeds)
            told = lead_in(tangle)
            self.assertIs(type(told), tuple)
            self.assertTrue(all(type(deed) is tuple for deed in told))
            self.assertEqual(told, told_image(ends, deeds))
            self.assertEqual((tangle.ends, tangle.deeds), (ends, tuple(deeds)))

    def test_the_image_of_an_image(self):
        # From a ring without ends to one without ends: so the image has an image, and that is the tangle.
        for ends, deeds in many_deeds(232):
            if ends == 0:
                image = Tangle(0, lead_in(Tangle(0, deeds)))
                self.assertEqual(lead_in(image), tuple(deeds))

    def test_no_tangle(self):
        for value in NO_TANGLES:
            self.refused(BadTangle, "tangle", lead_in, value)


class TestClosed(Refusals):

    def pairs(self, seed):
        """Tangles with as many ends, by twos."""
        told = {}
        for ends, deeds in many_deeds(seed):
            told.setdefault(ends, []).append(Tangle(ends, deeds))
        for tangles in told.values():
            yield from zip(tangles, tangles[3:] + tangles[:3])

    def test_as_told(self):
        for one, other in self.pairs(233):
            told = closed(one, other)
            self.assertIs(type(told), Tangle)
            self.assertEqual((told.ends, told.deeds), (0, told_image(other.ends, other.deeds) + one.deeds))
            self.assertEqual(closed(other=one, one=other).deeds, told_image(one.ends, one.deeds) + other.deeds)

    def test_depths(self):
        for one, other in self.pairs(234):
            told = closed(one, other)
            for clock in (3, 5, 31):
                depth = markings(told, clock).depth
                self.assertEqual(closed_depth(one, other, clock), depth)
                self.assertEqual(depths_of(told)[CLOCKS.index(clock)], depth)
                self.assertEqual(closed_depth(other, one, clock), depth)

    def test_each_marks_tried(self):
        told = few_deeds(235, 6, 40)
        for ends, deeds in told:
            others = [Tangle(*each) for each in told if each[0] == ends and regions_of(Tangle(*each)) <= 4]
            for other in others[:3]:
                found = told_markings(3, 0, list(closed(Tangle(ends, deeds), other).deeds))[1]
                self.assertEqual(3 ** closed_depth(Tangle(ends, deeds), other, 3), len(found))
            found = told_markings(3, ends, deeds)[1]
            self.assertEqual(3 ** depths_of(Tangle(ends, deeds))[0], len(found))

    def test_turned_alike(self):
        # Turned by one gap, both, they are closed likewise.
        for one, other in self.pairs(236):
            for gap in range(1, one.ends, 3):
                self.assertEqual(closed_depth(turned(one, gap), turned(other, gap), 5), closed_depth(one, other, 5))

    def test_without_ends_and_two(self):
        for clock in CLOCKS:
            self.assertEqual(closed(Tangle(0, []), Tangle(0, [])), Tangle(0, []))
            self.assertEqual(closed_depth(Tangle(0, []), Tangle(0, []), clock), 1)
            arc = Tangle(2, [("join", 1)])
            self.assertEqual(closed(arc, arc).deeds, (("open", 0), ("join", 1)))
            self.assertEqual(closed_depth(arc, arc, clock), 2)
            loop = Tangle(0, [("open", 0), ("join", 1)])
            self.assertEqual([closed_depth(loop, Tangle(0, []), clock), closed_depth(loop, loop, clock)], [2, 3])

    def test_knots_on_all_clocks(self):
        for many in range(1, 32):
            twist = Tangle(4, [("over", 1)] * many + [("turn", 1), ("join", 1), ("join", 1)])
            wanted = tuple(3 if many % clock == 0 else 2 for clock in CLOCKS)
            self.assertEqual(depths_of(tangle=closed(twist, SIDE)), wanted)
            self.assertEqual(tuple(closed_depth(twist, SIDE, clock) for clock in CLOCKS), wanted)

    def test_depths_of_open_tangles(self):
        for ends, deeds in many_deeds(237, 8):
            tangle = Tangle(ends, deeds)
            told = depths_of(tangle)
            self.assertIs(type(told), tuple)
            self.assertEqual(told, tuple(through(tangle, clock).depth + free_depth(tangle, clock) for clock in CLOCKS))


class TestTooMany(Soon, Refusals):

    def test_4000_deeds_together_and_one_more(self):
        for many in (1, 2000, 3995):
            one = Tangle(4, [("over", 1)] * many + [("join", 1), ("join", 1)])
            for more, fits in ((3996 - many, True), (3997 - many, False)):
                other = Tangle(4, [("under", 2)] * more + [("join", 1), ("join", 1)])
                if fits:
                    self.assertEqual(len(closed(one, other).deeds), 4000)
                else:
                    self.too_many("deeds", 4000, closed, one, other)
                    self.too_many("deeds", 4000, closed, other, one)
        most = Tangle(0, greatest_deeds())
        self.assertEqual(closed(most, Tangle(0, [])), most)
        self.assertEqual(closed(Tangle(0, []), most).deeds, lead_in(most))
        self.too_many("deeds", 4000, closed, most, most)
        self.too_many("deeds", 4000, closed, Tangle(0, [("open", 0), ("join", 1)]), most)
        # Whether they fit comes first.
        self.refused(Misfit, "other", closed, most, Tangle(2, [("over", 0)] * 3999 + [("join", 1)]))

    def test_the_depth_of_too_many_deeds(self):
        source = random.Random(238)
        for ends in (0, 2, 4):
            tangles = [Tangle(ends, of_few_regions(ends, 3990, source)) for _ in range(2)]
            self.assertLessEqual(max(regions_of(tangle) for tangle in tangles), 10)
            for one, other in (tangles, tangles[::-1]):
                self.assertGreater(len(one.deeds) + len(other.deeds), 7900)
                for clock in (3, 31):
                    with self.soon():
                        told = closed_depth(one, other, clock)
                    both = meeting(through(one, clock), through(other, clock)).depth
                    self.assertEqual(told, both + free_depth(one, clock) + free_depth(other, clock))
                    self.too_many("deeds", 4000, closed, one, other)
        turns = [("turn", 1)] * 3996
        one, other = [Tangle(4, turns + deeds) for deeds in ([("join", 1)] * 2, [("turn", 1)] + [("join", 1)] * 2)]
        self.assertEqual([closed_depth(one, one, 5), closed_depth(one, other, 5), closed_depth(other, PLAIN, 5)],
                         [3, 2, 2])

    def test_80_regions(self):
        source = random.Random(239)
        for ends in range(0, 17, 2):
            one, other = [Tangle(ends, deeds_of_regions(ends, 80, source)) for _ in range(2)]
            self.assertEqual([regions_of(one), regions_of(other)], [80, 80])
            with self.soon():
                told = [closed_depth(one, other, clock) for clock in (3, 31)]
            self.assertEqual(told, [markings(closed(one, other), clock).depth for clock in (3, 31)])
            with self.soon():
                self.assertEqual(depths_of(one)[9], markings(one, 31).depth)

    def test_400_regions_and_401(self):
        for ends in (0, 2, 4, 16):
            small = Tangle(ends, [("join", 1)] * (ends // 2))
            most, more = [Tangle(*tangle_of_regions(ends, many)) for many in (400, 401)]
            depth = 400 if ends == 0 else ends // 2 + 1
            self.assertEqual(closed_depth(most, small, 3), depth if ends != 0 else 400)
            self.assertEqual(closed_depth(small, most, 3), depth if ends != 0 else 400)
            for one, other in ((more, small), (small, more), (more, more), (most, more)):
                self.too_many("regions", 400, closed_depth, one, other, 3)
            self.too_many("regions", 400, depths_of, more)
        self.assertEqual(depths_of(Tangle(*tangle_of_regions(0, 400))), (400,) * 10)

    def test_both_of_400_regions(self):
        # Together they have more regions than a tangle may have whose markings are told.
        twist = Tangle(*tangle_of_regions(4, 400))
        self.assertEqual(closed_depth(twist, twist, 3), 3)
        self.too_many("regions", 400, depths_of, closed(twist, twist))


class TestRefusals(Refusals):

    def test_no_tangle(self):
        for value in NO_TANGLES:
            self.refused(BadTangle, "one", closed, value, PLAIN)
            self.refused(BadTangle, "other", closed, PLAIN, value)
            self.refused(BadTangle, "one", closed_depth, value, PLAIN, 5)
            self.refused(BadTangle, "other", closed_depth, PLAIN, value, 5)
            self.refused(BadTangle, "tangle", depths_of, value)

    def test_no_clock(self):
        for value in NO_CLOCKS:
            self.refused(BadClock, "clock", closed_depth, PLAIN, SIDE, value)

    def test_other_ends(self):
        tangles = [Tangle(ends, [("join", 1)] * (ends // 2)) for ends in range(0, 17, 2)]
        for one, other in itertools.permutations(tangles, 2):
            self.refused(Misfit, "other", closed, one, other)
            self.refused(Misfit, "other", closed_depth, one, other, 3)

    def test_the_first_wrong_one_is_refused(self):
        more = Tangle(*tangle_of_regions(2, 401))
        self.refused(BadTangle, "one", closed, None, None)
        self.refused(BadTangle, "one", closed_depth, other=None, clock=4, one=4)
        self.refused(BadTangle, "other", closed_depth, PLAIN, "", 4)
        self.refused(BadClock, "clock", closed_depth, PLAIN, more, 4)
        self.refused(Misfit, "other", closed_depth, PLAIN, more, 5)
        self.refused(Misfit, "other", closed_depth, more, PLAIN, 5)


if __name__ == "__main__":
    unittest.main()
