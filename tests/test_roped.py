"""Promises 2, 5, 6, 7, 10 and 11: whites and blacks, spaces that are split, ropes of systems, equations of tangles."""

import itertools
import random
import unittest

from ropesays.errors import BadClock, BadRow, BadSpace, BadSystem, BadTangle, Misfit
from ropesays.fairs import fair_spaces, is_fair
from ropesays.regions import rim_of
from ropesays.markings import markings
from ropesays.rims import chess_rows
from ropesays.roped import black_space, blacks, equations_of, fair_of, is_split, rope_of, white_space, whites
from ropesays.spaces import Space, holds, rows_in, upright
from ropesays.systems import System, answers, system_of
from ropesays.tangles import Tangle
from ropesays.through import through
from ropesays.tied import tied, tied_most
from tests.knots import some_deeds
from tests.odd import CLOCKS, NO_CLOCKS, NO_INTEGERS, NO_LISTS
from tests.refusals import Refusals
from tests.soon import Soon
from tests.test_spaces import NO_SPACES
from tests.test_systems import NO_NAMES, NO_SYSTEMS, SEVEN, some_names
from tests.test_tangles import NO_TANGLES
from tests.test_tied import some_fair

CURL = Tangle(4, [("over", 1), ("join", 1), ("join", 1)])
ONE = Tangle(4, [("over", 1), ("turn", 1), ("join", 1), ("join", 1)])


def told_whites(clock, row):
    """Whites as the document tells them, by the numbers of gaps."""
    return tuple((row[2 * i] - row[0]) % clock for i in range(1, len(row) // 2))


def told_blacks(clock, row):
    return tuple((row[2 * i + 1] - row[2 * i - 1]) % clock for i in range(1, len(row) // 2))


def are_upright(clock, one, other):
    return sum(a * b for a, b in zip(one, other)) % clock == 0


def some_space(clock, size, source, depth=None):
    """A space by chance."""
    many = source.randrange(size + 1) if depth is None else depth
    return Space(clock, size, [[source.randrange(clock) for _ in range(size)] for _ in range(many)])


def all_spaces(clock, size):
    """All spaces of a clock and a small size."""
    rows = list(itertools.product(range(clock), repeat=size))
    found = {Space(clock, size, some).rows for many in range(size + 1) for some in itertools.combinations(rows, many)}
    return [Space(clock, size, each) for each in sorted(found)]


class TestExamples(Refusals):

    def test_whites_and_blacks(self):
        told = [whites(7, [3, 1, 5, 0, 3, 6]), blacks(clock=7, row=(3, 1, 5, 0, 3, 6))]
        self.assertEqual(told, [(2, 0), (6, 6)])

    def test_fair_of(self):
        some = fair_of(Space(3, 2, [[1, 2]]))
        told = [some.rows, white_space(some).rows, black_space(some).rows, is_split(some), is_fair(some)]
        rows = ((1, 0, 0, 0, 2, 0), (0, 1, 0, 0, 0, 2), (0, 0, 1, 0, 2, 0), (0, 0, 0, 1, 0, 2))
        self.assertEqual(told, [rows, ((1, 2),), ((1, 1),), True, True])

    def test_split_and_equations(self):
        told = [fair_of(Space(5, 1, [])).rows, is_split(through(CURL, 5)), is_split(through(ONE, 5)),
                equations_of(CURL, 5, ["x"]).rows, str(equations_of(ONE, 5, names=("x",)))]
        rows = ((1, 0, 1, 0), (0, 1, 0, 0), (0, 0, 0, 1))
        self.assertEqual(told, [rows, True, False, ((1,),), "clock 5\nnames x"])

    def test_rope(self):
        typed = system_of("clock 7\nnames x y z u\nz = 2 x + 3 y\nu = x - z")
        rope = rope_of(typed)
        told = [rope.ends, through(rope, 7) == fair_of(answers(typed)),
                answers(equations_of(rope, 7, ["x", "y", "z", "u"])) == answers(typed)]
        self.assertEqual(told, [10, True, True])

    def test_refusals(self):
        self.refused(BadRow, "row", whites, 5, [1, 2])
        self.refused(Misfit, "space", fair_of, Space(5, 8, []))
        self.refused(Misfit, "names", equations_of, CURL, 5, ["x", "y"])
        self.refused(Misfit, "tangle", equations_of, Tangle(2, [("join", 1)]), 5, ["x"])


class TestWhitesAndBlacks(Refusals):

    def test_as_told(self):
        source = random.Random(220)
        for clock in CLOCKS:
            for size in range(4, 17, 2):
                for _ in range(5):
                    row = [source.randrange(clock) for _ in range(size)]
                    self.assertEqual(whites(clock, row), told_whites(clock, row))
                    self.assertEqual(blacks(clock, tuple(row)), told_blacks(clock, row))
                    self.assertIs(type(whites(clock=clock, row=row)), tuple)
                    self.assertIs(type(blacks(clock, row)), tuple)

    def test_by_hand(self):
        self.assertEqual([whites(5, (1, 2, 3, 4)), blacks(5, (1, 2, 3, 4))], [(2,), (2,)])
        self.assertEqual([whites(5, (4, 0, 0, 1)), blacks(5, (4, 4, 0, 1))], [(1,), (2,)])
        row = (1, 10, 2, 20, 4, 0, 8, 1, 16, 3, 0, 7, 30, 30, 29, 0)
        self.assertEqual(whites(31, row), (1, 3, 7, 15, 30, 29, 28))
        self.assertEqual(blacks(31, row), (10, 11, 1, 2, 4, 23, 1))

    def test_refusals(self):
        for call in (whites, blacks):
            for clock in NO_CLOCKS:
                self.refused(BadClock, "clock", call, clock, (0, 0, 0, 0))
            for row in ([], [1], [1, 2], [1, 2, 0], [1] * 5, [1] * 15, [1] * 17, [1] * 18, [0, 0, 0, 5],
                        [-1, 0, 0, 0], "0000", *NO_LISTS, *[[0, number, 0, 0] for number in NO_INTEGERS]):
                self.refused(BadRow, "row", call, 5, row)
            self.refused(BadClock, "clock", call, 4, [1])
            self.refused(BadClock, "clock", call, row=None, clock=None)


class TestFairOf(Refusals):

    def check(self, space):
        told = fair_of(space)
        self.assertIs(type(told), Space)
        self.assertEqual((told.clock, told.size, told.depth), (space.clock, 2 * space.size + 2, space.size + 2))
        self.assertIs(is_fair(told), True)
        for row in told.rows:
            self.assertIs(holds(space, told_whites(space.clock, row)), True)
            for each in space.rows:
                self.assertIs(are_upright(space.clock, told_blacks(space.clock, row), each), True)
        return told

    def test_each_row_tried(self):
        for clock, size in ((3, 1), (3, 2), (5, 1), (7, 1), (31, 1)):
            for space in all_spaces(clock, size) if clock < 31 else [Space(31, 1, []), Space(31, 1, [[1]])]:
                told = self.check(space)
                if clock ** told.size > 20000:
                    continue
                for row in itertools.product(range(clock), repeat=told.size):
                    wanted = holds(space, told_whites(clock, row)) and all(
                        are_upright(clock, told_blacks(clock, row), each) for each in rows_in(space))
                    self.assertIs(holds(told, row), wanted)

    def test_each_size_and_depth(self):
        source = random.Random(221)
        for clock in CLOCKS:
            for size in range(1, 8):
                for depth in range(size + 1):
                    space = some_space(clock, size, source, depth)
                    # As deep as a fair space is, and all of its rows as wanted: so no row is missing.
                    told = self.check(space)
                    self.assertEqual(fair_of(space=Space(clock, size, space.rows)), told)
                    self.assertIs(is_split(told), True)
                    self.assertEqual((white_space(told), black_space(told)), (space, upright(space)))

    def test_refusals(self):
        for value in NO_SPACES:
            self.refused(BadSpace, "space", fair_of, value)
        for size in (8, 9, 16, 399, 400):
            for rows in ([], [[1] * size]):
                self.refused(Misfit, "space", fair_of, Space(3, size, rows))


class TestSpacesOfWhitesAndBlacks(Refusals):

    def test_each_row(self):
        source = random.Random(222)
        for clock, sizes in ((3, (4, 6, 8, 16)), (5, (4, 6)), (13, (4,)), (31, (4, 6))):
            for size in sizes:
                for depth in range(4):
                    space = some_space(clock, size, source, depth)
                    white, black = white_space(space), black_space(space)
                    self.assertEqual((white.clock, white.size), (clock, size // 2 - 1))
                    self.assertEqual((black.clock, black.size), (clock, size // 2 - 1))
                    if clock ** space.depth <= 2500:
                        rows = rows_in(space)
                        self.assertEqual(set(rows_in(white)), {told_whites(clock, row) for row in rows})
                        self.assertEqual(set(rows_in(black)), {told_blacks(clock, row) for row in rows})

    def test_of_fair_spaces(self):
        # What is upright on all blacks are the whites of those rows whose blacks are 0.
        source = random.Random(223)
        for clock, ends in ((3, 4), (3, 6), (5, 4)):
            for space in fair_spaces(clock, ends):
                rows = rows_in(space)
                calm = {told_whites(clock, row) for row in rows if not any(told_blacks(clock, row))}
                self.assertEqual(set(rows_in(upright(black_space(space)))), calm)
        for clock in CLOCKS:
            space = some_fair(clock, 16, source)
            self.assertEqual(white_space(space=chess_rows(clock, 16)).depth, 0)
            self.assertGreaterEqual(white_space(space).depth + black_space(space=space).depth, 7)

    def test_split(self):
        for clock, size in ((3, 1), (3, 2), (5, 1), (5, 2), (31, 1)):
            spaces = all_spaces(clock, size) if clock < 31 else [Space(31, 1, []), Space(31, 1, [[1]])]
            wanted = [fair_of(space) for space in spaces]
            found = [space for space in fair_spaces(clock, 2 * size + 2) if is_split(space)]
            self.assertEqual(sorted(space.rows for space in found), sorted(space.rows for space in wanted))

    def test_split_but_for_a_row(self):
        source = random.Random(224)
        for clock in (3, 5, 31):
            for size in range(1, 8):
                space = fair_of(some_space(clock, size, source))
                self.assertIs(is_split(space=space), True)
                for at in range(space.depth):
                    self.assertIs(is_split(Space(clock, space.size, space.rows[:at] + space.rows[at + 1:])), False)
                for lead in range(space.size):
                    unit = [int(at == lead) for at in range(space.size)]
                    wider = Space(clock, space.size, [*space.rows, unit])
                    self.assertIs(is_split(wider), wider == space)

    def test_not_split(self):
        # In a split space each white of some row comes with each black of some row.
        source = random.Random(225)
        counts = {True: 0, False: 0}
        for clock, ends in ((3, 4), (3, 6), (3, 8), (5, 4), (5, 6)):
            for _ in range(30):
                space = some_fair(clock, ends, source)
                rows = rows_in(space)
                pairs = {(told_whites(clock, row), told_blacks(clock, row)) for row in rows}
                wanted = len(pairs) == len({one for one, _ in pairs}) * len({other for _, other in pairs})
                self.assertIs(is_split(space), wanted)
                counts[wanted] += 1
        self.assertGreater(min(counts.values()), 10)
        for size in range(4, 17, 2):
            self.assertIs(is_split(chess_rows(5, size)), False)
            self.assertIs(is_split(Space(5, size, [])), False)

    def test_refusals(self):
        for call in (white_space, black_space, is_split):
            for value in NO_SPACES:
                self.refused(BadSpace, "space", call, value)
            for size in (1, 2, 3, 5, 7, 15, 17, 18, 400):
                for rows in ([], [[1] * size]):
                    self.refused(Misfit, "space", call, Space(3, size, rows))


class TestRopeOf(Soon, Refusals):

    def check(self, system):
        space = fair_of(answers(system))
        with self.soon():
            rope = rope_of(system)
        self.assertIs(type(rope), Tangle)
        self.assertEqual((rope.ends, through(rope, system.clock)), (2 * len(system.names) + 2, space))
        self.assertEqual(rope, tied(space))
        words = [word for word, _ in rope.deeds]
        self.assertEqual(words.count("open"), 0)
        most = tied_most(system.clock, rope.ends)
        self.assertLessEqual(words.count("over") + words.count("under"), most)
        back = equations_of(rope, system.clock, system.names)
        self.assertEqual((back.clock, back.names), (system.clock, system.names))
        self.assertEqual(answers(back), answers(system))
        # Equations are told in the least form of what follows from them.
        self.assertEqual(back.rows, Space(system.clock, len(system.names), system.rows).rows)
        return rope

    def test_to_four_names(self):
        source = random.Random(226)
        for clock in (3, 5, 7, 11, 13):
            for many in range(1, 5):
                for equations in (0, 1, many, 20):
                    rows = [[source.randrange(clock) for _ in range(many)] for _ in range(equations)]
                    self.check(System(clock, some_names(source, many), rows))

    def test_two_names_on_each_clock(self):
        for clock in CLOCKS:
            self.check(system_of(f"clock {clock}\nnames x y\nx = 2 y"))

    def test_more_names(self):
        self.check(system_of("clock 5\nnames a b c d e\na = b + c\nd = a - e"))
        self.check(system_of("clock 3\nnames a b c d e f g\na + b + c = d\ne = f - 2 g\n- a = g"))
        for rows in ([], [[1] * 7], [[int(at == lead) for at in range(7)] for lead in range(7)]):
            self.check(System(3, SEVEN, rows))

    def test_values_stand_in_the_white_gaps(self):
        system = system_of("clock 5\nnames x y z\nz = x + 2 y")
        rope = rope_of(system)
        rim = rim_of(rope)
        found = set()
        for marks in rows_in(Space(5, markings(rope, 5).size, markings(rope, 5).rows[1:4])):
            values = [marks[region] for region in rim[2::2]]
            self.assertEqual(marks[rim[0]], 0)
            self.assertEqual((values[0] + 2 * values[1] - values[2]) % 5, 0)
            found.add(tuple(values))
        self.assertGreater(len(found), 1)

    def test_again(self):
        one, other = [System(7, names, rows) for names, rows in ((["x", "y"], [[1, 3]]), (("x", "y"), ((1, 3),)))]
        self.assertEqual(rope_of(one), rope_of(system=other))
        # Other names and other equations with the same answers: the same fair space.
        self.assertEqual(rope_of(System(7, ["u", "v"], [[2, 6], [0, 0]])), rope_of(one))

    def test_no_system(self):
        for value in NO_SYSTEMS:
            self.refused(BadSystem, "system", rope_of, value)


class TestEquationsOf(Soon, Refusals):

    def test_all_whites_hold_just_these(self):
        source = random.Random(227)
        for clock, rims in ((3, (4, 6, 8)), (5, (4, 6)), (13, (4,))):
            for ends in rims:
                for _ in range(6):
                    tangle = Tangle(ends, some_deeds(ends, 10, source))
                    told = equations_of(tangle, clock, SEVEN[:ends // 2 - 1])
                    self.assertIs(type(told), System)
                    self.assertEqual((told.clock, told.names), (clock, tuple(SEVEN[:ends // 2 - 1])))
                    white = {told_whites(clock, row) for row in rows_in(through(tangle, clock))}
                    holding = {row for row in itertools.product(range(clock), repeat=ends // 2 - 1)
                               if all(are_upright(clock, row, each) for each in white)}
                    space = Space(clock, ends // 2 - 1, told.rows)
                    self.assertEqual(set(rows_in(space)), holding)
                    self.assertEqual(told.rows, space.rows)

    def test_curls_and_twists(self):
        for clock in CLOCKS:
            for many in range(0, 40, 3):
                # Behind the turn the black is so many times the white: of the white alone nothing is told, but for 0.
                told = equations_of(Tangle(4, [("over", 1)] * many + [("turn", 1), ("join", 1), ("join", 1)]), clock,
                                    names=["x"])
                self.assertEqual(told.rows, ())
                told = equations_of(Tangle(4, [("over", 1)] * many + [("join", 1), ("join", 1)]), clock, ["x"])
                self.assertEqual(told.rows, ((1,),))
            self.assertEqual(equations_of(CURL, clock, ["x"]).rows, ((1,),))
            plain = Tangle(16, [("join", 1)] * 8)
            self.assertEqual(str(equations_of(plain, clock, ["a", "b", "c", "d", "e", "f", "g"])).split("\n")[2:],
                             [name + " = 0" for name in "abcdefg"])

    def test_the_greatest(self):
        source = random.Random(228)
        for clock in (3, 31):
            tangle = Tangle(16, some_deeds(16, 590, source, 18))
            with self.soon():
                told = equations_of(tangle, clock, SEVEN)
            self.assertEqual(answers(told), white_space(through(tangle, clock)))

    def test_refusals(self):
        for value in NO_TANGLES:
            self.refused(BadTangle, "tangle", equations_of, value, 5, ["x"])
        for value in NO_CLOCKS:
            self.refused(BadClock, "clock", equations_of, CURL, value, ["x"])
        for value in (["x", "x"], [], SEVEN + ["b"], [["x"]], "xy", "x", {"x": 1}, *NO_LISTS,
                      *[[name] for name in NO_NAMES]):
            self.refused(BadSystem, "names", equations_of, CURL, 5, value)
        for ends in (0, 2):
            for many in range(1, 8):
                tangle = Tangle(ends, [("join", 1)] * (ends // 2))
                self.refused(Misfit, "tangle", equations_of, tangle, 5, SEVEN[:many])
        for ends in range(4, 17, 2):
            tangle = Tangle(ends, [("join", 1)] * (ends // 2))
            for many in range(1, 8):
                if many != ends // 2 - 1:
                    self.refused(Misfit, "names", equations_of, tangle, 5, SEVEN[:many])

    def test_the_first_wrong_one_is_refused(self):
        small = Tangle(2, [("join", 1)])
        self.refused(BadTangle, "tangle", equations_of, None, 4, None)
        self.refused(BadClock, "clock", equations_of, small, 4, None)
        self.refused(BadSystem, "names", equations_of, small, 5, ["X"])
        self.refused(BadSystem, "names", equations_of, names=SEVEN + ["b"], clock=5, tangle=Tangle(0, []))
        self.refused(Misfit, "tangle", equations_of, small, 5, ["x", "y"])


if __name__ == "__main__":
    unittest.main()
