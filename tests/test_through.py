"""Promises 2, 5, 6 and 7: what a tangle lets through, and its free depth."""

import itertools
import random
import unittest

from ropesays.errors import BadClock, BadTangle
from ropesays.fairs import is_fair
from ropesays.markings import markings
from ropesays.regions import regions_of, rim_of
from ropesays.rims import chess_rows, turned_space
from ropesays.spaces import Space, holds, meeting, rows_in
from ropesays.tangles import Tangle, turned
from ropesays.through import free_depth, through
from tests.fills import deeds_of_regions, few_deeds, tangle_of_regions, told_markings
from tests.knots import greatest_deeds, many_deeds, some_deeds
from tests.odd import CLOCKS, NO_CLOCKS
from tests.refusals import Refusals
from tests.soon import Soon
from tests.test_markings import CROSS, KNOT
from tests.test_tangles import NO_TANGLES

CURL = Tangle(4, [("over", 1), ("join", 1), ("join", 1)])
LOOP = Tangle(2, [("open", 0), ("join", 1), ("join", 1)])


def all_numbers(clock, size):
    """The space of all rows."""
    return Space(clock, size, [[int(at == lead) for at in range(size)] for lead in range(size)])


def shown_space(tangle, clock):
    """What is let through, told from the markings, not from the deeds."""
    rim = rim_of(tangle)
    return Space(clock, len(rim), [[marks[region] for region in rim] for marks in markings(tangle, clock).rows])


def told_free(tangle, clock):
    """The depth of those markings that show 0s alone, told as a meeting of spaces."""
    size = regions_of(tangle)
    hidden = [[int(at == region) for at in range(size)] for region in range(size) if region not in rim_of(tangle)]
    return meeting(markings(tangle, clock), Space(clock, size, hidden)).depth


class TestExamples(Refusals):

    def test_through(self):
        told = [through(CURL, 5).rows, through(CROSS, 5) == markings(CROSS, 5), through(KNOT, 7).rows]
        self.assertEqual(told, [((1, 0, 1, 0), (0, 1, 0, 0), (0, 0, 0, 1)), True, ((1,),)])

    def test_free_depth(self):
        told = [free_depth(CURL, 5), free_depth(CROSS, 5), free_depth(KNOT, 3), free_depth(clock=5, tangle=KNOT)]
        self.assertEqual(told, [0, 0, 2, 1])

    def test_loop(self):
        self.assertEqual([through(LOOP, 31).rows, free_depth(LOOP, 31)], [((1, 0), (0, 1)), 1])

    def test_refusals(self):
        self.refused(BadTangle, "tangle", through, 5, 5)


class TestByHand(Refusals):

    def test_no_ends_and_two(self):
        for clock in CLOCKS:
            self.assertEqual(through(Tangle(0, []), clock), Space(clock, 1, [(1,)]))
            self.assertEqual(through(Tangle(2, [("join", 1)]), clock), all_numbers(clock, 2))
            self.assertEqual([free_depth(Tangle(0, []), clock), free_depth(Tangle(2, [("join", 1)]), clock)], [0, 0])
        for ends, deeds in many_deeds(50):
            if ends <= 2:
                self.assertEqual(through(Tangle(ends, deeds), 7), all_numbers(7, max(ends, 1)))

    def test_joins_alone(self):
        # Beside a join the gaps ahead and behind are one; what it shuts has any number.
        self.assertEqual(through(Tangle(4, [("join", 1), ("join", 1)]), 3),
                         Space(3, 4, [(1, 0, 1, 0), (0, 1, 0, 0), (0, 0, 0, 1)]))
        self.assertEqual(through(Tangle(4, [("join", 2), ("join", 1)]), 3),
                         Space(3, 4, [(1, 0, 0, 0), (0, 1, 0, 1), (0, 0, 1, 0)]))
        self.assertEqual(through(Tangle(6, [("join", 3), ("join", 2), ("join", 1)]), 5),
                         Space(5, 6, [(1, 0, 0, 0, 0, 0), (0, 1, 0, 0, 0, 1), (0, 0, 1, 0, 1, 0), (0, 0, 0, 1, 0, 0)]))

    def test_twists(self):
        # Each over adds the difference of gaps 0 and 2 to gap 1, each under takes it away; then gaps 1 and 3 are one.
        for clock in CLOCKS:
            for many in range(-5, 6):
                word = "over" if many > 0 else "under"
                tangle = Tangle(4, [(word, 1)] * abs(many) + [("turn", 1), ("join", 1), ("join", 1)])
                rows = [(1, 0, 0, many % clock), (0, 1, 0, 1), (0, 0, 1, -many % clock)]
                self.assertEqual(through(tangle, clock), Space(clock, 4, rows))

    def test_crossings_at_gap_0_and_the_last(self):
        # The inner number of the crossing at gap 0 is alike with gap 2, behind the join at gap 1.
        for gap, word in itertools.product((0, 3), ("over", "under")):
            tangle = Tangle(4, [(word, gap), ("join", 1 if gap == 0 else 2), ("join", 1)])
            for row in itertools.product(range(5), repeat=4):
                step = row[gap - 1] - row[(gap + 1) % 4]
                inner = row[gap] + (step if word == "over" else -step)
                self.assertIs(holds(through(tangle, 5), row), (inner - row[gap - 2]) % 5 == 0)

    def test_loops_alone(self):
        for many in range(1, 13):
            beside = Tangle(0, [("open", 0), ("join", 1)] * many)
            within = Tangle(0, [("open", at) for at in range(many)] + [("join", many - at) for at in range(many)])
            for tangle in (beside, within):
                self.assertEqual((through(tangle, 3).rows, free_depth(tangle, 3)), (((1,),), many))

    def test_chains_and_knots(self):
        # A twist that is closed: if the clock divides its crossings it is filled otherwise than a ring, too.
        for many in range(2, 12):
            tangle = Tangle(0, [("open", 0), ("open", 1)] + [("over", 1)] * many + [("join", 2), ("join", 1)])
            for clock in CLOCKS:
                self.assertEqual(free_depth(tangle, clock), 2 if many % clock == 0 else 1)


class TestByChance(Refusals):

    def tangles(self, *seeds):
        for seed in seeds:
            for ends, deeds in itertools.chain(many_deeds(seed), many_deeds(seed, 6)):
                yield Tangle(ends, deeds)

    def test_each_marks_tried(self):
        for ends, deeds in few_deeds(51, 7):
            tangle = Tangle(ends, deeds)
            rim, found = told_markings(3, ends, deeds)
            wanted = {tuple(marks[region] for region in rim) for marks in found}
            self.assertEqual(set(rows_in(through(tangle, 3))), wanted)
            hidden = [marks for marks in found if not any(marks[region] for region in rim)]
            self.assertEqual(3 ** free_depth(tangle, 3), len(hidden))

    def test_as_markings_show(self):
        for tangle in self.tangles(52, 53):
            for clock in (3, 11, 31):
                told = through(tangle, clock)
                self.assertIs(type(told), Space)
                self.assertEqual((told.clock, told.size), (clock, max(tangle.ends, 1)))
                self.assertEqual(told, shown_space(tangle, clock))
                self.assertEqual(free_depth(tangle, clock), told_free(tangle, clock))
                self.assertEqual(markings(tangle, clock).depth, told.depth + free_depth(tangle, clock))

    def test_fair(self):
        for tangle in self.tangles(54, 55, 56):
            for clock in CLOCKS:
                told = through(tangle, clock)
                self.assertIs(is_fair(told), True)
                self.assertEqual(told.depth, tangle.ends // 2 + 1)
                if tangle.ends:
                    self.assertEqual(meeting(told, chess_rows(clock, tangle.ends)).depth, 2)

    def test_told_from_another_gap_on(self):
        for tangle in self.tangles(57):
            for gap in range(max(tangle.ends, 1)):
                for clock in (3, 7):
                    told = turned(tangle, gap)
                    self.assertEqual(through(told, clock), turned_space(through(tangle, clock), gap))
                    self.assertEqual(free_depth(told, clock), free_depth(tangle, clock))

    def test_opens_that_are_alike_and_unlike(self):
        # What is opened behind may have alike numbers beside the new gap in all its rows, or in some of them alone.
        for clock in (3, 5, 31):
            for ends in range(0, 17, 2):
                for gap in range(max(ends, 1)):
                    for within in ([], [("over", gap)], [("under", gap + 1)]):
                        deeds = [("open", gap), *within] + [("join", 1)] * (ends // 2 + 1)
                        tangle = Tangle(ends, deeds)
                        self.assertEqual(through(tangle, clock), shown_space(tangle, clock))


class TestTheGreatest(Soon, Refusals):

    def test_great_tangles_on_rings_of_at_most_four_ends(self):
        source = random.Random(58)
        for clock in (3, 31):
            for ends in (0, 2, 4):
                # Behind 3,998 deeds at most two joins stand.
                tangle = Tangle(ends, some_deeds(ends, 3998, source, 4))
                with self.soon():
                    told = through(tangle, clock)
                self.assertIs(is_fair(told), True)
                self.assertEqual(told.size, max(ends, 1))
            twist = Tangle(4, [("over", 1)] * 3997 + [("turn", 1), ("join", 1), ("join", 1)])
            with self.soon():
                told = through(twist, clock)
            self.assertEqual(told, Space(clock, 4, [(1, 0, 0, 3997 % clock), (0, 1, 0, 1), (0, 0, 1, -3997 % clock)]))

    def test_rings_to_18_ends(self):
        source = random.Random(59)
        for clock in (3, 31):
            for ends in (0, 8, 16):
                tangle = Tangle(ends, some_deeds(ends, 591, source, 18))
                with self.soon():
                    told = through(tangle, clock)
                self.assertEqual(told, shown_space(tangle, clock))

    def test_rings_of_24_ends(self):
        tangle = Tangle(0, greatest_deeds())
        self.assertEqual(through(tangle, 31).rows, ((1,),))
        source = random.Random(60)
        for clock in (3, 31):
            self.assertIs(is_fair(through(Tangle(16, some_deeds(16, 3988, source)), clock)), True)

    def test_80_regions(self):
        source = random.Random(61)
        for clock in CLOCKS:
            for ends in range(0, 17, 2):
                tangle = Tangle(ends, deeds_of_regions(ends, 80, source))
                self.assertEqual(regions_of(tangle), 80)
                self.assertEqual(free_depth(tangle, clock), told_free(tangle, clock))
                self.assertEqual(through(tangle, clock), shown_space(tangle, clock))

    def test_400_regions_and_401(self):
        for ends in range(0, 17, 2):
            most, more = [Tangle(*tangle_of_regions(ends, many)) for many in (400, 401)]
            with self.soon():
                self.assertEqual(free_depth(most, 5), 399 if ends == 0 else 0)
            self.too_many("regions", 400, free_depth, more, 5)
            self.assertEqual(through(more, 5).depth, ends // 2 + 1)


class TestRefusals(Refusals):

    def test_no_tangle(self):
        for value in NO_TANGLES:
            self.refused(BadTangle, "tangle", through, value, 5)
            self.refused(BadTangle, "tangle", free_depth, value, 5)

    def test_no_clock(self):
        for value in NO_CLOCKS:
            self.refused(BadClock, "clock", through, CROSS, value)
            self.refused(BadClock, "clock", free_depth, CROSS, value)

    def test_the_first_wrong_one_is_refused(self):
        more = Tangle(*tangle_of_regions(4, 401))
        for call in (through, free_depth):
            self.refused(BadTangle, "tangle", call, None, 4)
            self.refused(BadTangle, "tangle", call, clock=4, tangle=(4, ()))
            self.refused(BadClock, "clock", call, more, 4)


if __name__ == "__main__":
    unittest.main()
