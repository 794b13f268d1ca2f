"""Promises 2 and 4: spaces, their least form, their texts, and what is made of them."""

import itertools
import random
import unittest

from ropesays.errors import BadClock, BadNumber, BadRow, BadSpace, Misfit
from ropesays.papers import Paper
from ropesays.spaces import Space, holds, joined_space, meeting, rows_in, upright
from tests.odd import CLOCKS, NO_CLOCKS, NO_INTEGERS, NO_LISTS
from tests.refusals import NO_STRINGS, NO_WRITTEN, Refusals

NO_SPACES = (*NO_INTEGERS, 5, ((1, 0),), [(1, 0)], "clock 5 size 2", Space, Paper("space", 5, 2, ()))

SMALL = ((3, 1), (3, 2), (3, 3), (3, 4), (5, 1), (5, 2), (5, 3), (7, 2), (31, 1))


def all_rows(clock, size):
    return list(itertools.product(range(clock), repeat=size))


def sums(clock, size, rows):
    """All sums of multiples of rows, by adding one row after another."""
    told = {(0,) * size}
    for row in rows:
        told = {tuple((a + times * b) % clock for a, b in zip(each, row)) for each in told for times in range(clock)}
    return told


def some_spaces(many=12):
    """Clocks, sizes, and some rows each: none, few, many, some of them alike, or all 0."""
    source = random.Random(4)
    for clock, size in SMALL:
        yield clock, size, []
        yield clock, size, [[0] * size] * 3
        for _ in range(many):
            rows = [[source.randrange(clock) for _ in range(size)] for _ in range(source.randrange(1, 5))]
            yield clock, size, rows + rows[:source.randrange(2)]


class TestExamples(Refusals):

    def setUp(self):
        self.plane = Space(5, 4, [(0, 2, 1, 0), [1, 1, 0, 3], (1, 3, 1, 3)])
        self.last = Space(5, 4, [(0, 0, 0, 1)])

    def test_a_plane(self):
        plane = self.plane
        self.assertEqual([plane.clock, plane.size, plane.rows, plane.depth, str(plane)],
                         [5, 4, ((1, 0, 2, 3), (0, 1, 3, 0)), 2, "clock 5 size 4\n1 0 2 3\n0 1 3 0"])
        told = [Space.read(str(plane)) == plane, Space(5, 4, [[1, 0, 2, 3], [0, 1, 3, 0]]) == plane,
                Space(3, 2, ()).rows, str(Space(clock=3, size=2, rows=[(0, 0)]))]
        self.assertEqual(told, [True, True, (), "clock 3 size 2"])

    def test_rows(self):
        plane = self.plane
        told = [holds(plane, (1, 1, 0, 3)), holds(plane, row=[0, 0, 0, 1]), holds(plane, (0, 0, 0, 0)),
                rows_in(Space(3, 3, [(2, 1, 0)]))]
        self.assertEqual(told, [True, False, True, ((0, 0, 0), (1, 2, 0), (2, 1, 0))])

    def test_two_spaces(self):
        plane, last = self.plane, self.last
        told = [upright(plane).rows, joined_space(plane, last).rows, meeting(plane, last).depth,
                meeting(joined_space(plane, last), upright(last)).rows]
        self.assertEqual(told, [((1, 0, 0, 3), (0, 1, 3, 3)), ((1, 0, 2, 0), (0, 1, 3, 0), (0, 0, 0, 1)), 0,
                                ((1, 0, 2, 0), (0, 1, 3, 0))])

    def test_refusals(self):
        self.refused(BadRow, "rows", Space, 5, 2, [(5, 0)])
        self.refused(Misfit, "other", meeting, self.last, Space(7, 4, []))
        self.misread(1, 1, Space.read, "clock 5 size 2\n2 0")
        self.misread(0, 1, Space.read, "clock 4 size 2")
        self.too_many("rows", 2500, rows_in, Space(31, 3, [(1, 0, 0), (0, 1, 0), (0, 0, 1)]))


class TestLeastForm(Refusals):

    def is_least(self, space):
        leads = []
        for row in space.rows:
            self.assertIsInstance(row, tuple)
            self.assertEqual(len(row), space.size)
            leads.append(next(at for at, number in enumerate(row) if number))
            self.assertEqual(row[leads[-1]], 1)
        self.assertEqual(leads, sorted(set(leads)))
        for lead in leads:
            self.assertEqual(sum(row[lead] for row in space.rows), 1)
        self.assertTrue(all(number in range(space.clock) for row in space.rows for number in row))
        self.assertIsInstance(space.rows, tuple)
        self.assertEqual(space.depth, len(space.rows))

    def test_small_spaces(self):
        for clock, size, rows in some_spaces():
            space = Space(clock, size, rows)
            self.assertEqual((space.clock, space.size), (clock, size))
            self.is_least(space)
            self.assertEqual(sums(clock, size, space.rows), sums(clock, size, rows))

    def test_each_space_has_just_one(self):
        for clock, size in ((3, 3), (5, 2)):
            found = {}
            for rows in itertools.product(all_rows(clock, size), repeat=2):
                told = Space(clock, size, rows).rows
                self.assertEqual(found.setdefault(frozenset(sums(clock, size, rows)), told), told)
            # Of one line and one plane each the rows of 0s alone are none.
            self.assertEqual(len(found), {3: 1 + 13 + 13, 5: 1 + 6 + 1}[clock])

    def test_each_clock(self):
        for clock in CLOCKS:
            for number in range(1, clock):
                space = Space(clock, 2, [(0, number)])
                self.assertEqual(space.rows, ((0, 1),))
                space = Space(clock, 3, [(number, 1, 0)])
                self.assertEqual(space.rows[0][1] * number % clock, 1)
                self.is_least(space)

    def test_great_spaces(self):
        source = random.Random(7)
        for clock in (3, 31):
            rows = [[source.randrange(clock) for _ in range(400)] for _ in range(400)]
            for many in (150, 400):
                space = Space(clock, 400, rows[:many])
                self.is_least(space)
                for row in rows[:many:50]:
                    self.assertTrue(holds(space, row))
                self.assertEqual(Space(clock, 400, space.rows[::-1]), space)

    def test_many_numbers_add_up(self):
        # Each row has the greatest number everywhere, so that sums are as great as they come.
        rows = [[30] * (at + 1) + [0] * (399 - at) for at in range(400)]
        whole = tuple(tuple(int(at == k) for k in range(400)) for at in range(400))
        self.assertEqual(Space(31, 400, rows).rows, whole)
        self.assertEqual(Space(31, 400, rows[::-1]).rows, whole)
        half = Space(31, 400, [[30] * 200 + row[:200] for row in rows[:200]])
        self.assertEqual(half.depth, 200)
        self.is_least(half)

    def test_sizes(self):
        for size in (1, 2, 399, 400):
            space = Space(3, size, [[0] * (size - 1) + [2]])
            self.assertEqual(space.rows, ((0,) * (size - 1) + (1,),))
        for size in (0, -1, 401, 10 ** 30, *NO_INTEGERS):
            self.refused(BadNumber, "size", Space, 3, size, [])

    def test_how_many_rows(self):
        for many in (0, 1, 399, 400):
            self.assertEqual(Space(3, 2, [(1, 1)] * many).depth, min(many, 1))
        for many in (401, 4000):
            self.refused(BadRow, "rows", Space, 3, 2, [(1, 1)] * many)
            self.refused(BadRow, "rows", Space, 3, 2, ((1, 1),) * many)

    def test_what_is_passed_is_copied(self):
        rows = [[2, 0], [0, 0]]
        space = Space(5, 2, rows)
        self.assertEqual(rows, [[2, 0], [0, 0]])
        rows[0][1] = 1
        rows.append([0, 1])
        self.assertEqual(space.rows, ((1, 0),))

    def test_lists_and_tuples(self):
        told = [Space(5, 2, rows) for rows in ([[1, 2]], [(1, 2)], ([1, 2],), ((1, 2),))]
        self.assertTrue(all(each == told[0] and each.rows == ((1, 2),) for each in told))

    def test_no_rows(self):
        for clock in CLOCKS:
            for number in (-1, clock, 10 ** 40, *NO_INTEGERS):
                self.refused(BadRow, "rows", Space, clock, 2, [(0, 0), (0, number)])
        for row in ((), (1,), (1, 1, 1), [[1, 1]], *NO_LISTS):
            self.refused(BadRow, "rows", Space, 5, 2, [(1, 1), row])
        for rows in ((1, 1), [1, 1], [[]], *NO_LISTS):
            self.refused(BadRow, "rows", Space, 5, 2, rows)

    def test_no_clock(self):
        for clock in NO_CLOCKS:
            self.refused(BadClock, "clock", Space, clock, 2, [])

    def test_the_first_wrong_one_is_refused(self):
        self.refused(BadClock, "clock", Space, 4, 0, None)
        self.refused(BadClock, "clock", Space, rows=[(9,)], size=True, clock=True)
        self.refused(BadNumber, "size", Space, 5, 401, [(5,)])
        self.refused(BadNumber, "size", Space, rows=None, size="2", clock=5)
        self.refused(BadRow, "rows", Space, 5, 1, [(1, 1)])


class TestEquality(Refusals):

    def test_equal_exactly_if_the_attributes_are(self):
        spaces = [Space(3, 2, []), Space(5, 2, []), Space(3, 1, []), Space(3, 2, [(1, 0)]), Space(3, 2, [(1, 1)])]
        for one, other in itertools.product(spaces, spaces):
            self.assertIs(one == other, one is other)
            self.assertIs(one != other, one is not other)
        self.assertIs(Space(3, 2, [(2, 0)]) == Space(3, 2, [(1, 0), (2, 0)]), True)

    def test_other_values(self):
        space = Space(5, 2, [(1, 0)])
        for value in (None, 5, space.rows, str(space), (5, 2, space.rows), Paper("space", 5, 2, space.rows), object()):
            self.assertIs(space == value, False)
            self.assertIs(value == space, False)
            self.assertIs(space != value, True)


class TestText(Refusals):

    def test_written_and_read(self):
        for clock, size, rows in some_spaces():
            space = Space(clock, size, rows)
            lines = [f"clock {clock} size {size}"] + [" ".join(str(number) for number in row) for row in space.rows]
            self.assertEqual(str(space), "\n".join(lines))
            told = Space.read(str(space))
            self.assertIs(type(told), Space)
            self.assertEqual(told, space)
            self.assertEqual(told.rows, space.rows)

    def test_the_greatest(self):
        for size in (1, 170, 400):
            space = Space(31, size, [[30] * size] + [[at % 31 for at in range(size)]] * 3)
            self.assertEqual(Space.read(text=str(space)), space)
        space = Space(3, 110, [[int(at == k) for k in range(110)] for at in range(110)])
        self.assertEqual(Space.read(str(space)).depth, 110)
        self.misread(111, 0, Space.read, str(space) + "\n" + " ".join(["0"] * 110))

    def test_no_strings(self):
        for value in NO_STRINGS:
            self.misread(0, 0, Space.read, value)

    def test_item_by_item(self):
        def wrong(line, at):
            if line > 0:
                return ("5", "-1", "10", *NO_WRITTEN)
            return (("Clock", "size", "", "5"), ("4", "2", "9", "0", "37", "-5", "1" * 60, *NO_WRITTEN),
                    ("sizes", "clock", "SIZE", ""), ("0", "401", "-1", "1" * 60, *NO_WRITTEN))[at]

        self.misread_item_by_item(Space.read, "clock 5 size 3\n1 0 4\n0 1 2", wrong)
        self.misread_item_by_item(Space.read, "clock 5 size 1\n1", wrong)
        self.misread_item_by_item(Space.read, "clock 5 size 2", wrong)

    def test_line_0(self):
        for text, item in (("", 0), ("\n", 0), ("clock", 1), ("clock ", 1), ("clock 5", 2), ("clock 5 size", 3),
                           (" clock 5 size 2", 0), ("clock  5 size 2", 1), ("clock 5 size 2 ", 4), ("clock 5\n1 0", 2)):
            self.misread(0, item, Space.read, text)

    def test_lines_too_many(self):
        self.misread(3, 0, Space.read, "clock 5 size 2\n1 0\n0 1\n0 0")
        self.misread(3, 0, Space.read, "clock 5 size 2\n1 0\n0 1\n")
        # Here the rows ahead are no least form, too: that only the whole would tell.
        self.misread(3, 0, Space.read, "clock 5 size 2\n2 0\n2 0\nx")
        self.misread(2, 0, Space.read, "clock 5 size 1\n1\n1")
        self.misread(1, 0, Space.read, "clock 5 size 2\n")
        self.misread(2, 0, Space.read, "clock 5 size 2\n1 0\n")

    def test_the_first_line_counts(self):
        self.misread(1, 1, Space.read, "clock 5 size 2\n1 5\n5 5\n1 1\n1 1")
        self.misread(2, 2, Space.read, "clock 5 size 2\n2 2\n1 1 1\n")
        self.misread(0, 3, Space.read, "clock 5 size x\n1 5")

    def test_no_least_form(self):
        for rows in ("0 0 0", "2 0 0", "0 1 0\n1 0 0", "1 1 0\n0 1 0", "1 0 0\n1 0 0", "1 0 0\n0 0 0",
                     "2 0 0\n0 1 0\n0 0 1"):
            self.misread(len(rows.split("\n")), 2, Space.read, "clock 5 size 3\n" + rows)
        for number in ("0", "2"):
            self.misread(1, 0, Space.read, "clock 3 size 1\n" + number)

    def test_all_short_texts(self):
        # What is no text of a space must be refused; what is one must be told again.
        texts = {str(Space(3, 2, rows)) for rows in itertools.product(all_rows(3, 2), repeat=2)}
        found = set()
        for many in (0, 1, 2):
            for rows in itertools.product(all_rows(3, 2), repeat=many):
                text = "\n".join(["clock 3 size 2"] + [" ".join(map(str, row)) for row in rows])
                if text in texts:
                    found.add(text)
                    self.assertEqual(str(Space.read(text)), text)
                else:
                    self.misread(many, 1, Space.read, text)
        self.assertEqual(found, texts)


class TestHolds(Refusals):

    def test_just_the_sums(self):
        for clock, size, rows in some_spaces(3):
            space, told = Space(clock, size, rows), sums(clock, size, rows)
            for row in all_rows(clock, size):
                self.assertIs(holds(space, row), row in told)
                self.assertIs(holds(space, list(row)), row in told)

    def test_four_hundred_numbers(self):
        space = Space(31, 400, [[1] * 400, [2] * 399 + [3]])
        self.assertIs(holds(space, [30] * 399 + [17]), True)
        self.assertIs(holds(space, [30] * 398 + [17, 17]), False)

    def test_no_rows(self):
        space = Space(5, 2, [(1, 0)])
        for row in ((), (1,), (1, 0, 0), (5, 0), (0, -1), [[1, 0]], *NO_LISTS):
            self.refused(BadRow, "row", holds, space, row)
        for number in NO_INTEGERS:
            self.refused(BadRow, "row", holds, space, (0, number))

    def test_no_space(self):
        for value in NO_SPACES:
            self.refused(BadSpace, "space", holds, value, (1, 0))
        self.refused(BadSpace, "space", holds, row=None, space=None)


class TestTwoSpaces(Refusals):

    def test_all_pairs_of_some(self):
        source = random.Random(8)
        given = list(some_spaces(4))
        for clock, size, rows in given:
            others = [each[2] for each in given if each[:2] == (clock, size)]
            for others_rows in source.sample(others, 3):
                one, other = Space(clock, size, rows), Space(clock, size, others_rows)
                joined, common = joined_space(one, other), meeting(one, other)
                self.assertIs(type(joined), Space)
                self.assertIs(type(common), Space)
                self.assertEqual(sums(clock, size, joined.rows), sums(clock, size, rows + others_rows))
                both = sums(clock, size, rows) & sums(clock, size, others_rows)
                self.assertEqual(sums(clock, size, common.rows), both)
                self.assertEqual((joined.clock, joined.size, common.clock, common.size), (clock, size) * 2)
                self.assertEqual(joined.depth + common.depth, one.depth + other.depth)

    def test_the_greatest(self):
        source = random.Random(9)
        rows = [[source.randrange(31) for _ in range(400)] for _ in range(400)]
        one, other = Space(31, 400, rows[:250]), Space(31, 400, rows[150:])
        common = meeting(one, other)
        self.assertEqual(joined_space(one, other).depth + common.depth, 500)
        self.assertTrue(all(holds(common, row) for row in rows[150:250:9]))
        whole = Space(3, 400, [[int(at >= k) for at in range(400)] for k in range(400)])
        self.assertEqual([joined_space(whole, whole).depth, meeting(whole, whole).depth], [400, 400])

    def test_by_name(self):
        one, other = Space(5, 2, [(1, 0)]), Space(5, 2, [(1, 1)])
        self.assertEqual(joined_space(other=other, one=one).depth, 2)
        self.assertEqual(meeting(other=one, one=one), one)

    def test_refusals(self):
        one = Space(5, 2, [(1, 0)])
        for call in (meeting, joined_space):
            for value in NO_SPACES:
                self.refused(BadSpace, "one", call, value, one)
                self.refused(BadSpace, "other", call, one, value)
            self.refused(BadSpace, "one", call, None, None)
            self.refused(BadSpace, "one", call, other=Space(3, 1, []), one=5)
            for other in (Space(7, 2, [(1, 0)]), Space(5, 3, []), Space(3, 400, [])):
                self.refused(Misfit, "other", call, one, other)
                self.refused(Misfit, "other", call, other, one)


class TestUpright(Refusals):

    def test_just_the_upright_rows(self):
        for clock, size, rows in some_spaces(4):
            space = Space(clock, size, rows)
            told = upright(space)
            wanted = {row for row in all_rows(clock, size)
                      if all(sum(a * b for a, b in zip(row, each)) % clock == 0 for each in rows)}
            self.assertEqual(sums(clock, size, told.rows), wanted)
            self.assertEqual((told.clock, told.size, told.depth), (clock, size, size - space.depth))
            self.assertEqual(upright(space=told), space)

    def test_sizes(self):
        for size in (1, 400):
            none, whole = Space(31, size, []), upright(Space(31, size, []))
            self.assertEqual((whole.depth, upright(whole)), (size, none))
        self.assertEqual(upright(Space(31, 400, [[30] * 400])).depth, 399)

    def test_no_space(self):
        for value in NO_SPACES:
            self.refused(BadSpace, "space", upright, value)


class TestRowsIn(Refusals):

    def test_all_of_them_ascending(self):
        for clock, size, rows in some_spaces():
            told = rows_in(Space(clock, size, rows))
            self.assertEqual(told, tuple(sorted(sums(clock, size, rows))))
            self.assertTrue(all(isinstance(row, tuple) for row in told))
            self.assertIsInstance(told, tuple)

    def test_at_most_so_many(self):
        # For each clock the depth up to which there are not more than 2500 rows.
        depths = {3: 7, 5: 4, 7: 4, 11: 3, 13: 3, 17: 2, 19: 2, 23: 2, 29: 2, 31: 2}
        for clock, depth in depths.items():
            units = [[int(at == k) for at in range(9)] for k in range(9)]
            told = rows_in(space=Space(clock, 9, units[:depth]))
            self.assertEqual((len(told), told), (clock ** depth, tuple(sorted(set(told)))))
            for more in (depth + 1, 9):
                self.too_many("rows", 2500, rows_in, Space(clock, 9, units[:more]))

    def test_four_hundred_numbers(self):
        told = rows_in(Space(3, 400, [[2] * 400]))
        self.assertEqual(told, ((0,) * 400, (1,) * 400, (2,) * 400))
        self.assertEqual(rows_in(Space(3, 400, [])), ((0,) * 400,))
        whole = Space(31, 400, [[int(at >= k) for at in range(400)] for k in range(400)])
        self.too_many("rows", 2500, rows_in, whole)

    def test_no_space(self):
        for value in NO_SPACES:
            self.refused(BadSpace, "space", rows_in, value)


if __name__ == "__main__":
    unittest.main()
