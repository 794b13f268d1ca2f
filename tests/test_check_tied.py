"""Promises 2, 5, 6, 7 and 10: which values are tangles that tie a space."""

import itertools
import random
import unittest

from ropesays.check_tied import shows_tied
from ropesays.errors import BadSpace, Misfit
from ropesays.fairs import fair_spaces
from ropesays.papers import Paper
from ropesays.rims import chess_rows, turned_space
from ropesays.spaces import Space, rows_in
from ropesays.tangles import Tangle, turned
from ropesays.through import through
from ropesays.tied import tied, tied_most
from tests.fills import few_deeds, told_markings
from tests.knots import many_deeds, some_deeds
from tests.odd import CLOCKS, NO_INTEGERS, NO_LISTS
from tests.refusals import Refusals
from tests.soon import Soon
from tests.test_spaces import NO_SPACES
from tests.test_tangles import NO_TANGLES
from tests.test_tied import some_fair

ONE = Tangle(4, [("over", 1), ("turn", 1), ("join", 1), ("join", 1)])
OTHER = Tangle(4, [("under", 1), ("turn", 1), ("join", 1), ("join", 1)])


class Likely:
    """What looks like a tangle."""

    def __init__(self, tangle):
        self.ends, self.deeds = tangle.ends, tangle.deeds


class TestExamples(Refusals):

    def test_shown(self):
        space = fair_spaces(5, 4)[1]
        values = (tied(space), ONE, OTHER, Tangle(2, [("join", 1)]), ONE.deeds, None)
        self.assertEqual([shows_tied(space, value) for value in values], [True, True, False, False, False, False])
        told = [shows_tied(fair_spaces(5, 4)[4], OTHER),
                shows_tied(Space(5, 1, [(1,)]), Tangle(0, [("open", 0), ("join", 1)]))]
        self.assertEqual(told, [True, True])


class TestRightAndWrong(Refusals):

    def test_each_marks_tried(self):
        right = 0
        for ends, deeds in few_deeds(210, 7):
            rim, found = told_markings(3, ends, deeds)
            rows = {tuple(marks[region] for region in rim) for marks in found}
            for space in fair_spaces(3, ends) if ends <= 6 else []:
                wanted = set(rows_in(space)) == rows
                self.assertIs(shows_tied(space, Tangle(ends, deeds)), wanted)
                right += wanted
        self.assertGreater(right, 40)

    def test_just_one_of_all_spaces(self):
        source = random.Random(211)
        for clock, ends in ((3, 4), (3, 6), (5, 4), (31, 4), (7, 2), (7, 0)):
            spaces = fair_spaces(clock, ends)
            for _ in range(4):
                tangle = Tangle(ends, some_deeds(ends, 12, source))
                self.assertEqual([shows_tied(space, tangle) for space in spaces].count(True), 1)

    def test_with_opens_and_with_more_crossings(self):
        for ends, deeds in itertools.chain(many_deeds(212), many_deeds(213, 6)):
            tangle = Tangle(ends, deeds)
            for clock in (3, 7):
                space = through(tangle, clock)
                self.assertIs(shows_tied(value=tangle, space=space), True)
                if ends > 2:
                    more = Tangle(ends, [("over", 1)] * clock * tied_most(clock, 4) + list(deeds))
                    self.assertIs(shows_tied(space, more), True)
        # A knot has crossings, though no crossing is needed.
        knot = Tangle(0, [("open", 0), ("open", 1)] + [("over", 1)] * 3 + [("join", 2), ("join", 1)])
        self.assertIs(shows_tied(Space(3, 1, [(1,)]), knot), True)
        self.assertIs(shows_tied(Space(5, 2, [(1, 0), (0, 1)]), Tangle(2, [("under", 0)] * 999 + [("join", 1)])), True)

    def test_one_crossing_more(self):
        source = random.Random(214)
        for clock, ends in ((3, 4), (5, 6), (31, 6), (3, 12)):
            space = some_fair(clock, ends, source)
            told = tied(space)
            for gap in range(ends):
                for many in (1, clock - 1, clock):
                    more = Tangle(ends, [("under", gap)] * many + list(told.deeds))
                    rows = [[*row[:gap], row[gap] + many * (row[gap - 1] - row[(gap + 1) % ends]), *row[gap + 1:]]
                            for row in space.rows]
                    changed = Space(clock, ends, [[number % clock for number in row] for row in rows])
                    self.assertIs(shows_tied(changed, more), True)
                    self.assertIs(shows_tied(space, more), changed == space)

    def test_other_clocks_other_ends_other_gaps(self):
        source = random.Random(215)
        for ends in (0, 2, 4, 6):
            space = through(Tangle(ends, some_deeds(ends, 10, source)), 3)
            told = tied(space)
            self.assertIs(shows_tied(space, told), True)
            for many in range(0, 17, 2):
                other = Tangle(many, [("join", 1)] * (many // 2))
                self.assertIs(shows_tied(space, other), through(other, 3) == space)
            for gap in range(1, ends):
                self.assertIs(shows_tied(turned_space(space, gap), turned(told, gap)), True)
                self.assertIs(shows_tied(space, turned(told, gap)), turned_space(space, gap) == space)
        # Three overs are as none on the clock of 3, not on others.
        for clock in CLOCKS:
            space = through(Tangle(4, [("join", 1), ("join", 1)]), clock)
            turns = [("turn", 1), ("join", 1), ("join", 1)]
            plain = through(Tangle(4, turns), clock)
            self.assertIs(shows_tied(plain, Tangle(4, [("over", 1)] * 3 + turns)), clock == 3)
            self.assertIs(shows_tied(space, Tangle(4, [("over", 1)] * 3 + [("join", 1), ("join", 1)])), True)


class TestAnyValue(Refusals):

    def test_no_tangles(self):
        space = through(ONE, 5)
        for value in (*NO_TANGLES, *NO_INTEGERS, *NO_LISTS, space, Likely(ONE), str(ONE), (4, ONE.deeds), [ONE],
                      Paper("tangle", ONE), Tangle, tied):
            self.assertIs(shows_tied(space, value), False)
            self.assertIs(shows_tied(Space(5, 1, [(1,)]), value), False)


class TestTheGreatest(Soon, Refusals):

    def test_as_tied(self):
        source = random.Random(216)
        for clock, ends in [(clock, 6) for clock in CLOCKS] + [(13, 10), (11, 8), (5, 12), (3, 16)]:
            space = some_fair(clock, ends, source)
            with self.soon():
                self.assertIs(shows_tied(space, tied(space)), True)

    def test_great_tangles(self):
        source = random.Random(217)
        for clock in (3, 31):
            for ends, many, most in ((4, 3990, 4), (16, 590, 18), (2, 3990, 4)):
                tangle = Tangle(ends, some_deeds(ends, many, source, most))
                space = through(tangle, clock)
                with self.soon():
                    self.assertIs(shows_tied(space, tangle), True)
                    other = Tangle(ends, [("over", 0), *tangle.deeds])
                self.assertIs(shows_tied(space, other), through(other, clock) == space)


class TestRefusals(Refusals):

    def test_no_space(self):
        for value in NO_SPACES:
            self.refused(BadSpace, "space", shows_tied, value, ONE)

    def test_not_fair_or_of_no_rim(self):
        for space in [Space(3, size, rows) for size in (3, 5, 15, 17, 18, 400) for rows in ([], [[1] * size])] + [
                Space(5, 1, []), Space(5, 2, [(1, 1)]), chess_rows(5, 4), Space(5, 4, []), chess_rows(3, 16)]:
            for value in (ONE, Tangle(0, []), None):
                self.refused(Misfit, "space", shows_tied, space, value)

    def test_the_first_wrong_one_is_refused(self):
        self.refused(BadSpace, "space", shows_tied, None, None)
        self.refused(BadSpace, "space", shows_tied, value=3, space=(5, 1, ((1,),)))
        self.refused(Misfit, "space", shows_tied, value=3, space=chess_rows(3, 6))


if __name__ == "__main__":
    unittest.main()
