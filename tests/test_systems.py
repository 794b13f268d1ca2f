"""Promises 2, 4 and 11: what a system keeps and refuses, its text, equations as they are typed, and the answers."""

import functools
import itertools
import random
import re
import unittest

from ropesays.errors import BadClock, BadSystem
from ropesays.papers import Paper
from ropesays.spaces import Space, rows_in
from ropesays.systems import System, answers, system_of
from tests.odd import CLOCKS, NO_CLOCKS, NO_INTEGERS, NO_LISTS
from tests.refusals import NO_STRINGS, NO_WRITTEN, Refusals
from tests.soon import Soon

NO_NAMES = ("", "X", "xY", "x1", "1", "x_", "x y", "x ", " x", "x\n", "\u00e4", "abcdefghi", "x" * 30, "=", "+", "-",
            "/", "0", b"x", ["x"], ("x",), *NO_INTEGERS)
SEVEN = ["a", "bb", "ccc", "dddd", "eeeee", "ffffff", "zzzzzzzz"]
NO_SYSTEMS = (*NO_INTEGERS, 5, (5, ("x",), ()), "clock 5\nnames x", System, Space(5, 1, []),
              Paper("system", 5, ("x",), ()))


def told_line(names, row):
    """The line of a row, as the document tells it."""
    terms = [name if number == 1 else str(number) + " " + name for number, name in zip(row, names) if number]
    return (" + ".join(terms) or "0") + " = 0"


def row_pattern(clock, names):
    """What the line of a row looks like, as a regular expression."""
    numbers = "|".join(str(number) for number in range(2, clock))
    sides = []
    for many in range(1, len(names) + 1):
        for some in itertools.combinations(names, many):
            sides.append("[+] ".join(f"(({numbers}) )?{name} " for name in some))
    return re.compile(f"({'|'.join(sides)}|0 )= 0")


def equation_pattern(names):
    """What an equation looks like as it is typed."""
    term = f"((0|[1-9][0-9]?[0-9]?) )?({'|'.join(names)})"
    side = f"(0|(- )?{term}( [-+] {term})*)"
    return re.compile(f"{side} = {side}")


@functools.cache
def can_go_on(pattern, names, line):
    """Whether some way to go on makes a whole line of what stands so far."""
    rests = ["", " 0", " = 0"] + [" " + name for name in names] + [f" {name} = 0" for name in names]
    return any(pattern.fullmatch(line + rest) for rest in rests)


def first_wrong(pattern, names, items):
    """The index of the first item that cannot stand behind those before it; None if the line is one of the pattern."""
    for at in range(1, len(items) + 1):
        if not can_go_on(pattern, tuple(names), " ".join(items[:at])):
            return at - 1
    return None if pattern.fullmatch(" ".join(items)) else len(items)


def told_sums(names, line):
    """What an equation comes to, left less right, for each name."""
    sums = dict.fromkeys(names, 0)
    for sign, side in zip((1, -1), line.split(" = ")):
        for plus, number, name in re.findall("([-+] )?([0-9]+ )?([a-z]+)", side):
            sums[name] += sign * (-1 if plus == "- " else 1) * int(number or 1)
    return [sums[name] for name in names]


def some_names(source, many):
    names = []
    while len(names) < many:
        name = "".join(source.choice("abxyz") for _ in range(source.choice((1, 1, 2, 8))))
        names += [name] if name not in names else []
    return names


def some_side(names, source):
    if source.random() < 0.15:
        return ["0"]
    items = ["-"] if source.random() < 0.3 else []
    for at in range(source.randrange(1, 5)):
        items += [source.choice("+-")] if at else []
        items += [str(source.choice((0, 1, 2, 3, 9, 30, 31, 998, 999)))] if source.random() < 0.5 else []
        items.append(source.choice(names))
    return items


class TestExamples(Refusals):

    def test_plan(self):
        plan = System(7, ["x", "y", "z"], [[2, 1, 6], (0, 0, 0)])
        told = [plan.clock, plan.names, plan.rows, str(plan).split("\n"), System.read(str(plan)) == plan,
                system_of(str(plan)) == plan]
        wanted = [7, ("x", "y", "z"), ((2, 1, 6), (0, 0, 0)), ["clock 7", "names x y z", "2 x + y + 6 z = 0", "0 = 0"],
                  True, True]
        self.assertEqual(told, wanted)

    def test_typed(self):
        typed = system_of("clock 7\nnames x y z u\nz = 2 x + 3 y\nu = x - z")
        told = [typed.rows, answers(typed).rows, answers(system=System(3, ["a", "b"], [])).rows]
        self.assertEqual(told, [((5, 4, 1, 0), (6, 0, 1, 1)), ((1, 0, 2, 6), (0, 1, 3, 4)), ((1, 0), (0, 1))])
        told = [system_of("clock 5\nnames a b\n- a + 7 b - a = 0 b").rows,
                system_of(text="clock 5\nnames a\n0 = 0").rows, system_of("clock 5\nnames a").rows]
        self.assertEqual(told, [((3, 2),), ((0,),), ()])

    def test_refusals(self):
        self.refused(BadSystem, "names", System, 7, ["x", "x"], [])
        self.misread(2, 1, System.read, "clock 7\nnames x y\ny + x = 0")
        self.misread(2, 0, System.read, "clock 5\nnames x\n5 x = 0")
        self.misread(2, 3, system_of, "clock 5\nnames x\nx = 3")
        self.misread(2, 1, system_of, "clock 5\nnames x\n0 + x = 0")


class TestSystem(Refusals):

    def test_what_it_keeps(self):
        for clock in CLOCKS:
            for names in (SEVEN, tuple(SEVEN), ["x"], ("names", "clock"), ["zzzzzzzz", "a"]):
                for rows in ([], [[clock - 1] * len(names)] * 20, ((0,) * len(names), [1] * len(names))):
                    system = System(clock, names, rows)
                    self.assertEqual((system.clock, system.names, system.rows),
                                     (clock, tuple(names), tuple(tuple(row) for row in rows)))
                    self.assertTrue(all(isinstance(row, tuple) for row in system.rows))
        self.assertEqual(System(rows=[[1]], names=["x"], clock=3).rows, ((1,),))

    def test_what_is_passed_is_copied(self):
        names, rows = ["x", "y"], [[1, 2], [0, 1]]
        system = System(3, names, rows)
        self.assertEqual((names, rows), (["x", "y"], [[1, 2], [0, 1]]))
        names[0] = "z"
        rows[0][0] = 0
        rows.append([1, 1])
        self.assertEqual((system.names, system.rows), (("x", "y"), ((1, 2), (0, 1))))

    def test_no_clock(self):
        for value in NO_CLOCKS:
            self.refused(BadClock, "clock", System, value, ["x"], [])

    def test_no_names(self):
        for value in (["x", "x"], ["x", "y", "x"], [], (), SEVEN + ["b"], [["x"]], "xy", {"x": 1}, *NO_LISTS):
            self.refused(BadSystem, "names", System, 5, value, [])
        for name in NO_NAMES:
            for names in ([name], ["a", name], [name, "a"], ("a", name, "b")):
                self.refused(BadSystem, "names", System, 5, names, [])

    def test_no_rows(self):
        for value in ([[]], [[1]], [[1, 2, 3]], [[1, 2], [1]], [1, 2], [[1, 5]], [[-1, 0]], ["12"], [[1, 2]] * 21,
                      {(1, 2): 1}, [None], [[[1, 2]]], *NO_LISTS):
            self.refused(BadSystem, "rows", System, 5, ["x", "y"], value)
        for number in NO_INTEGERS:
            self.refused(BadSystem, "rows", System, 5, ["x", "y"], [[0, 0], [1, number]])

    def test_the_first_wrong_one_is_refused(self):
        self.refused(BadClock, "clock", System, 4, None, None)
        self.refused(BadSystem, "names", System, 5, [], None)
        self.refused(BadSystem, "names", System, rows=[[9]] * 30, names=["x", "X"], clock=5)
        self.refused(BadClock, "clock", System, rows=[[9]], names=["x", "X"], clock=True)

    def test_equality(self):
        systems = [System(3, ["x"], []), System(5, ["x"], []), System(3, ["y"], []), System(3, ["x", "y"], []),
                   System(3, ["y", "x"], []), System(3, ["x"], [[1]]), System(3, ["x"], [[0]]),
                   System(3, ["x"], [[1], [1]])]
        for one in systems:
            for other in systems:
                self.assertIs(one == other, one is other)
                self.assertIs(one != other, one is not other)
            self.assertIs(one == System(one.clock, list(one.names), [list(row) for row in one.rows]), True)
            for value in (None, one.rows, one.names, str(one), (one.clock, one.names, one.rows), object()):
                self.assertIs(one == value, False)
                self.assertIs(value == one, False)


class TestText(Refusals):

    def test_written_and_read(self):
        source = random.Random(200)
        for clock in CLOCKS:
            for many in range(1, 8):
                names = some_names(source, many)
                numbers = (0, 0, 1, 2, clock - 1, source.randrange(clock))
                rows = [[source.choice(numbers) for _ in names] for _ in range(source.choice((0, 1, 3, 20)))]
                system = System(clock, names, rows)
                lines = [f"clock {clock}", "names " + " ".join(names)] + [told_line(names, row) for row in rows]
                self.assertEqual(str(system), "\n".join(lines))
                for read in (System.read, system_of):
                    told = read(text=str(system))
                    self.assertIs(type(told), System)
                    self.assertEqual((told.clock, told.names, told.rows), (system.clock, system.names, system.rows))

    def test_all_lines_of_rows(self):
        # Just the texts of rows are read; what is typed otherwise is told by its first item that no row has.
        for clock, names in ((3, ["x"]), (5, ["x", "y"]), (3, ["x", "y", "z"])):
            pattern = row_pattern(clock, names)
            items = [*names, "0", "1", "2", "+", "="]
            for many in range(1, 6 if len(names) < 3 else 5):
                for told in itertools.product(items, repeat=many):
                    text = f"clock {clock}\nnames {' '.join(names)}\n{' '.join(told)}"
                    at = first_wrong(pattern, names, list(told))
                    if at is None:
                        self.assertEqual(str(System.read(text)), text)
                    else:
                        self.misread(2, at, System.read, text)

    def misread_rows(self, text):
        """Refused are each item of a row exchanged for a wrong one, a row cut off anywhere, and one item too many."""
        lines = text.split("\n")
        for line in range(2, len(lines)):
            items = lines[line].split(" ")
            told = [(at, [*items[:at], bad, *items[at + 1:]]) for at in range(len(items))
                    for bad in ("", "X", "-", "w", "/", "*", "1", "31", "1000", *NO_WRITTEN) if bad != "x"]
            told += [(at, items[:at]) for at in range(1, len(items))] + [(0, [""])]
            told += [(len(items), [*items, more]) for more in ("0", "", "x", "=", "+")]
            for at, changed in told:
                changed_lines = [*lines[:line], " ".join(changed), *lines[line + 1:]]
                self.misread(line, at, System.read, "\n".join(changed_lines))

    def test_item_by_item(self):
        for text in ("clock 7\nnames x y zz\n2 x + y + 6 zz = 0\n0 = 0\nzz = 0", "clock 3\nnames a\n2 a = 0",
                     "clock 31\nnames b a\n30 b + 10 a = 0"):
            self.misread_rows(text)

    def test_numbers_in_terms(self):
        for clock in CLOCKS:
            for number in range(2, clock):
                self.assertEqual(System.read(f"clock {clock}\nnames x\n{number} x = 0").rows, ((number,),))
            for number in (-1, 1, clock, clock + 1, 999, 10 ** 30):
                self.misread(2, 0, System.read, f"clock {clock}\nnames x\n{number} x = 0")
            self.misread(2, 1, System.read, f"clock {clock}\nnames x\n0 x = 0")

    def test_plus_behind_the_last_name(self):
        head = "clock 5\nnames x y\n"
        self.misread(2, 1, System.read, head + "y + x = 0")
        self.misread(2, 3, System.read, head + "x + y + x = 0")
        self.misread(2, 2, System.read, head + "x + x = 0")
        self.misread(2, 3, System.read, head + "x + 2 x = 0")
        self.misread(2, 2, System.read, head + "x = y")
        self.misread(2, 2, System.read, head + "x + 0 = 0")
        self.misread(2, 3, System.read, head + "x = 0 0")


class TestHeads(Refusals):
    """Lines 0 and 1, and the 21st row, are told alike by both readers."""

    def misread(self, line, item, read, text):
        for read in (System.read, system_of):
            super().misread(line, item, read, text)

    def test_no_strings(self):
        for value in NO_STRINGS:
            self.misread(0, 0, None, value)

    def test_line_0(self):
        for text, item in (("", 0), ("clock", 1), ("Clock 5", 0), (" clock 5", 0), ("clock  5", 1), ("clock 5 5", 2),
                           ("clock 5 ", 2), ("clock 4", 1), ("clock 05", 1), ("clock 4\nnames X", 1), ("5", 0)):
            self.misread(0, item, None, text)

    def test_line_1(self):
        for clock in CLOCKS:
            self.misread(1, 0, None, f"clock {clock}")
        for text, item in (("", 0), ("names", 1), ("names ", 1), ("Names x", 0), ("x", 0), ("names  x", 1),
                           ("names x ", 2), ("names x x", 2), ("names x y x", 3), ("names x\tx", 1), ("names x Y x", 2),
                           ("names abcdefgh abcdefghi", 2), ("names a b c d e f g h", 8), ("names a b c d e f g a", 8),
                           ("names a b c d e f g 0", 8), ("names a b c d e f a h", 7), ("name x", 0)):
            self.misread(1, item, None, "clock 5\n" + text)
            self.misread(1, item, None, "clock 5\n" + text + "\n3")
        told = system_of("clock 5\nnames a b c d e f g").names
        self.assertEqual(told, ("a", "b", "c", "d", "e", "f", "g"))

    def test_21_rows(self):
        for row in ("0 = 0", "2 x + y = 0"):
            text = "\n".join(["clock 5", "names x y"] + [row] * 20)
            for read in (System.read, system_of):
                self.assertEqual(len(read(text).rows), 20)
            for more in (row, "", "x", "0", "?"):
                self.misread(22, 0, None, text + "\n" + more)
                self.misread(22, 0, None, text + "\n" + more + "\n" + more)
            self.misread(21, 1, None, text[:-len(row)] + "0\n" + row)

    def test_lines_that_are_empty_or_cut_off(self):
        self.misread(2, 0, None, "clock 5\nnames x\n")
        self.misread(2, 0, None, "clock 5\nnames x\n\nx = 0")
        self.misread(2, 1, None, "clock 5\nnames x\nx\n= 0")
        self.misread(2, 2, None, "clock 5\nnames x\nx =\n0")
        self.misread(2, 2, None, "clock 5\nnames x\nx = \n0")
        self.misread(3, 0, None, "clock 5\nnames x\nx = 0\n")

    def test_the_first_line_counts(self):
        self.misread(0, 1, None, "clock 9\nnames 1\n?")
        self.misread(1, 1, None, "clock 3\nnames 1\n?")
        self.misread(2, 0, None, "clock 3\nnames x\n?\n!")


class TestTyped(Refusals):

    def test_all_short_equations(self):
        for names, items in ((["x"], ["x", "0", "1", "-", "+", "="]), (["x", "y"], ["x", "y", "0", "-", "+", "="])):
            pattern = equation_pattern(names)
            for many in range(1, 6):
                for told in itertools.product(items, repeat=many):
                    line = " ".join(told)
                    text = f"clock 5\nnames {' '.join(names)}\n{line}"
                    at = first_wrong(pattern, names, list(told))
                    if at is None:
                        wanted = tuple(number % 5 for number in told_sums(names, line))
                        self.assertEqual(system_of(text).rows, (wanted,), line)
                    else:
                        self.misread(2, at, system_of, text)

    def test_some_equations(self):
        source = random.Random(201)
        for clock in CLOCKS:
            for many in range(1, 8):
                names = some_names(source, many)
                lines = [" ".join(some_side(names, source) + ["="] + some_side(names, source)) for _ in range(8)]
                told = system_of("\n".join([f"clock {clock}", "names " + " ".join(names)] + lines))
                self.assertEqual((told.clock, told.names), (clock, tuple(names)))
                wanted = [tuple(number % clock for number in told_sums(names, line)) for line in lines]
                self.assertEqual(told.rows, tuple(wanted))

    def test_items_changed(self):
        source = random.Random(202)
        others = ["x", "yy", "0", "1", "999", "1000", "-", "+", "=", "", "w", "01", "-1", "X", "/", "+x"]
        for _ in range(3000):
            names = ["x", "yy", "z"][:source.randrange(1, 4)]
            items = some_side(names, source) + ["="] + some_side(names, source)
            for _ in range(source.randrange(1, 3)):
                at = source.randrange(len(items) + 1)
                items[at:at + source.randrange(2)] = [source.choice(others) for _ in range(source.randrange(2))]
            line = " ".join(items)
            at = first_wrong(equation_pattern(names), names, line.split(" "))
            text = f"clock 7\nnames {' '.join(names)}\n0 = 0\n{line}"
            if at is None:
                wanted = tuple(number % 7 for number in told_sums(names, line))
                self.assertEqual(system_of(text).rows[1], wanted)
            else:
                self.misread(3, at, system_of, text)

    def test_integers_of_terms(self):
        for number in range(1000):
            told = system_of(f"clock 31\nnames x y\n{number} x - {number} y = y").rows
            self.assertEqual(told, ((number % 31, (-number - 1) % 31),))
        for bad in ("1000", "9999", "-1", "-999", "1" * 40, *NO_WRITTEN):
            if bad == "x":
                continue
            if bad != "-":
                self.misread(2, 0, system_of, f"clock 31\nnames x\n{bad} x = 0")
            self.misread(2, 2, system_of, f"clock 31\nnames x\nx = {bad if bad != '-' else '--'} x")
            self.misread(2, 1, system_of, f"clock 31\nnames x\n- {bad} x = 0")
            self.misread(2, 4, system_of, f"clock 31\nnames x\nx = x - {bad} x")

    def test_zeros(self):
        head = "clock 5\nnames x y\n"
        for line, row in (("0 = 0", (0, 0)), ("0 x = 0", (0, 0)), ("0 = 0 x", (0, 0)), ("0 x + y = 0", (0, 1)),
                          ("0 = 0 x - 2 y", (0, 2)), ("- 0 x = x", (4, 0)), ("x + 0 x = 0 y", (1, 0)),
                          ("0 = x", (4, 0)), ("0 = - x", (1, 0))):
            self.assertEqual(system_of(head + line).rows, (row,), line)
        for line, item in (("0", 1), ("0 0", 1), ("0 + x = 0", 1), ("- 0 = 0", 2), ("x + 0 = 0", 3), ("0 = 0 + x", 3),
                           ("0 = 0 0", 3), ("0 = - 0", 4), ("x - 0 = 0", 3), ("0 1 x = 0", 1), ("0 =", 2),
                           ("0 = 0 =", 3), ("0 = 0 = 0", 3)):
            self.misread(2, item, system_of, head + line)

    def test_signs(self):
        head = "clock 5\nnames x y\n"
        for line, item in (("+ x = 0", 0), ("- - x = 0", 1), ("x + + y = 0", 2), ("x + - y = 0", 2), ("x - = 0", 2),
                           ("x y = 0", 1), ("2 2 x = 0", 1), ("2 = x", 1), ("x 2 = 0", 1), ("= x", 0), ("x = = y", 2),
                           ("x =", 2), ("x = + y", 2), ("x = y +", 4), ("x = y = y", 3), ("x = -", 3), ("-x = 0", 0),
                           ("2x = 0", 0), ("x=0", 0), ("x", 1), ("x /", 1), ("x = 0 /", 3), ("x = y / y = x", 3)):
            self.misread(2, item, system_of, head + line)


class TestAnswers(Soon, Refusals):

    def test_each_row_tried(self):
        source = random.Random(203)
        for clock, most in ((3, 5), (5, 3), (7, 3), (31, 2)):
            for many in range(1, most + 1):
                for equations in range(0, 5):
                    rows = [[source.choice((0, source.randrange(clock))) for _ in range(many)]
                            for _ in range(equations)]
                    told = answers(System(clock, some_names(source, many), rows))
                    self.assertIs(type(told), Space)
                    self.assertEqual((told.clock, told.size), (clock, many))
                    wanted = {values for values in itertools.product(range(clock), repeat=many)
                              if all(sum(a * b for a, b in zip(row, values)) % clock == 0 for row in rows)}
                    self.assertEqual(set(rows_in(told)), wanted)

    def test_the_greatest(self):
        source = random.Random(204)
        for clock in CLOCKS:
            rows = [[source.randrange(clock) for _ in SEVEN] for _ in range(3)]
            rows = [[sum(times * row[at] for times, row in zip(by, rows)) % clock for at in range(7)]
                    for by in [[source.randrange(clock) for _ in rows] for _ in range(20)]]
            with self.soon():
                system = System(clock, SEVEN, rows)
                told = answers(System.read(str(system)))
            self.assertGreaterEqual(told.depth, 4)
            for row in rows:
                for values in told.rows:
                    self.assertEqual(sum(a * b for a, b in zip(row, values)) % clock, 0)
        text = "clock 31\nnames x\n" + "\n".join(["999 x" + " - 998 x" * 170 + " = x + 999 x"] * 20)
        with self.soon():
            self.assertEqual(system_of(text).rows, (((999 - 998 * 170 - 1000) % 31,),) * 20)

    def test_no_system(self):
        for value in NO_SYSTEMS:
            self.refused(BadSystem, "system", answers, value)


if __name__ == "__main__":
    unittest.main()
