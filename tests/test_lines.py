"""Promises 2 and 14: which lines are lines of a desk, and the first item that cannot stand or is missing."""

import random
import unittest

from ropesays.desk import Desk
from ropesays.errors import BadText, RopeError
from tests.desks import KEPT, KINDS, first_wrong, is_line
from tests.odd import CLOCKS
from tests.refusals import NO_STRINGS, NO_WRITTEN, Refusals

LINES = (
    "space a 1 2 0 1", "space a 0", "space a 1 2 / 0 1 / 2 2", "space a 1 2 0 1 / 0 1 1 1",
    "system a x", "system a x y",
    "system a x y / x = 2 y", "system a x y / - x + 12 y = 0 / 0 = 0 x - y / 0 = 0", "system abc abcdefgh i j",
    "tangle a 0", "tangle a 4 / over 1 / join 1 / join 1", "tangle a 16 / turn 23 / open 0", "answers a b",
    "fair a b", "beside a b", "whites a b", "blacks a b", "through a b", "tie a b", "rope a b", "pull a b",
    "turned a b 0", "turned a b 15", "closed a b c", "drop a", "undo", "again", "log", "names", "holds a 0 1 2",
    "isfair a", "row a 0 1 1 2", "same a b", "free a", "loops a", "ropes a", "said a x", "said a x y z", "led 0 1 2 0",
    "fewest 0 1", "count 0", "count 16", "picture a", "text a",
)
ITEMS = ("a", "b1", "x", "y", "0", "1", "2", "3", "16", "/", "=", "+", "-", "over", "join", "", "X", "1a", "01",
         "-1", "a_", "space", "undo", "24", "17", "999", "1000", "abcdefghijkl", "abcdefghijklm", "a\n", "\n",
         "a\nb", "0\n")


class Lines(Refusals):

    def told_error(self, clock, line):
        """The item that a new desk refuses; None if it takes the line for one of the tables."""
        error = None
        desk = Desk(clock)
        try:
            desk.tell(line)
        except RopeError as raised:
            error = raised
        if type(error).__name__ == "BadText":
            self.assertEqual(error.line, 0)
            self.assertEqual((desk.log, desk.tell("names")), ((), "-"))
            return error.item
        return None

    def check(self, clock, line):
        wanted = first_wrong(clock, line)
        self.assertEqual(self.told_error(clock, line), wanted, (clock, line))
        return wanted

    def misread_line(self, clock, line, item):
        self.assertEqual(first_wrong(clock, line), item, line)
        self.misread(0, item, Desk(clock).tell, line)


class TestLines(Lines):

    def test_right_ones(self):
        self.assertEqual({line.split(" ")[0] for line in LINES}, set(KINDS))
        for line in LINES:
            for clock in (3, 5, 31):
                self.assertIs(is_line(clock, line), True, line)
                self.assertIsNone(self.check(clock, line))

    def test_cut_off_anywhere(self):
        for line in LINES:
            items = line.split(" ")
            for many in range(1, len(items)):
                self.check(5, " ".join(items[:many]))

    def test_one_item_too_many(self):
        for line in LINES:
            for item in ITEMS:
                self.check(5, line + " " + item)
                self.check(5, item + " " + line)

    def test_each_item_exchanged(self):
        for line in LINES:
            items = line.split(" ")
            for at in range(len(items)):
                for item in ITEMS:
                    self.check(3, " ".join([*items[:at], item, *items[at + 1:]]))
                    self.check(3, " ".join([*items[:at], item, *items[at:]]))

    def test_by_chance(self):
        source = random.Random(300)
        wrong = 0
        for _ in range(4000):
            items = source.choice(LINES).split(" ")
            for _ in range(source.randrange(1, 4)):
                at = source.randrange(len(items) + 1)
                items[at:at + source.randrange(3)] = [source.choice(ITEMS) for _ in range(source.randrange(3))]
            wrong += self.check(source.choice(CLOCKS), " ".join(items)) is not None
        self.assertGreater(wrong, 3000)

    def test_no_strings(self):
        for value in NO_STRINGS:
            self.misread(0, 0, Desk(5).tell, value)
        for value in ("", " ", "Undo", "undo\n", "\nundo", "undo\nundo", "log\tnames", "spaces a 1", "/", "0", "a"):
            self.misread(0, 0, Desk(5).tell, value)
        for word in KINDS:
            self.misread(0, 0, Desk(5).tell, word.upper())
            self.misread(0, 0, Desk(5).tell, word + "\n")
            self.misread(0, 1, Desk(5).tell, word + " ")


class TestItems(Lines):

    def test_names(self):
        desk = Desk(5)
        for name in ("a", "z", "abcdefghijkl", "a0", "z99999999999", "space", "undo", "log", "over", "x1y2"):
            self.assertEqual(desk.tell("space " + name + " 1"), "space 1 1")
            self.assertEqual(desk.tell("text " + name), "clock 5 size 1 / 1")
        for bad in ("", "A", "aB", "0", "0a", "9", "a_", "a-b", "a.", "\u00e4", "a\u00e4", "abcdefghijklm", "a" * 40,
                    "/", "a\n", "\na", "a\tb", "a\u0661", "+"):
            for line, at in (("space {} 1", 1), ("answers {} a", 1), ("answers new {}", 2), ("closed new a {}", 3),
                             ("drop {}", 1), ("text {}", 1), ("same a {}", 2), ("holds {} 1", 1), ("free {}", 1)):
                self.misread_line(5, line.format(bad), at)

    def test_rows(self):
        for clock in CLOCKS:
            row = " ".join([str(clock - 1)] * 16)
            for line, at in (("space a {}", 2), ("led {}", 1), ("fewest {}", 1), ("holds a {}", 2), ("row a {}", 2)):
                self.assertIsNone(self.check(clock, line.format(row)))
                self.misread_line(clock, line.format(row + " 0"), at + 16)
                self.misread_line(clock, line.format("0 " + row), at + 16)
                for bad in (str(clock), "-1", "/", "x", "=", *NO_WRITTEN):
                    self.misread_line(clock, line.format(bad), at)
                    if bad != "/":
                        self.misread_line(clock, line.format("0 0 " + bad), at + 2)

    def test_rows_of_spaces(self):
        self.misread_line(5, "space a 1 2 / 3", 6)
        self.misread_line(5, "space a 1 2 / 3 /", 6)
        self.misread_line(5, "space a 1 2 / 3 / 1 2", 6)
        self.misread_line(5, "space a 1 2 / 3 4 0", 7)
        self.misread_line(5, "space a 1 2 / 3 4 /", 8)
        self.misread_line(5, "space a 1 2 /", 5)
        self.misread_line(5, "space a / 1", 2)
        self.misread_line(5, "space a 1 / / 1", 4)
        self.misread_line(5, "space a 1 2/ 3 4", 3)

    def test_20_rows_and_one_more(self):
        for row in ("1", "0 1 2", " ".join(["1"] * 16)):
            size = len(row.split(" "))
            rows = " / ".join([row] * 20)
            self.assertIsNone(self.check(3, "space a " + rows))
            self.misread_line(3, f"space a {rows} / {row}", 2 + 20 * size + 19)
            self.misread_line(3, f"space a {rows} /", 2 + 20 * size + 19)
            self.misread_line(3, f"space a {rows} 0", 2 + 20 * size + 19)

    def test_unknowns(self):
        for head in ("system a", "said a"):
            for bad in ("X", "x1", "abcdefghi", "0", "=", "", "+"):
                self.misread_line(5, f"{head} {bad}", 2)
                self.misread_line(5, f"{head} x {bad}", 3)
            self.assertIsNone(self.check(5, f"{head} a b c d e f g"))
            self.misread_line(5, f"{head} a b c d e f g h", 9)
            self.misread_line(5, f"{head} a b c d e f g a", 9)
            self.misread_line(5, f"{head} x y x", 4)
            self.misread_line(5, f"{head}", 2)
            self.misread_line(5, f"{head} / x = 0", 2)
        self.misread_line(5, "said a x / x = 0", 3)
        self.misread_line(5, "system a a b c d e f g h / a = b", 9)

    def test_equations(self):
        for line, at in (("x", 5), ("x =", 6), ("= x", 4), ("x = 3", 7), ("0 + x = 0", 5), ("x = 0 0", 7),
                         ("x = x + z", 8), ("x = x /", 8), ("x = x / / x = x", 8), ("x = x / x", 9), ("1000 x = 0", 4),
                         ("x = 0 = 0", 7), ("x = 0 + x", 7), ("", 4), ("x = 01 x", 6), ("z = 0", 4)):
            self.misread_line(5, "system a x / " + line, at)

    def test_20_equations_and_one_more(self):
        for equation in ("x = y", "0 = 0"):
            line = "system a x y" + f" / {equation}" * 20
            self.assertIsNone(self.check(3, line))
            self.misread_line(3, f"{line} / {equation}", 4 + 80)
            self.misread_line(3, f"{line} /", 4 + 80)
            self.misread_line(3, f"{line} =", 4 + 80)

    def test_ends_and_gaps(self):
        for ends in range(0, 17, 2):
            self.assertIsNone(self.check(5, f"count {ends}"))
            self.assertIsNone(self.check(5, f"tangle a {ends}"))
        for bad in ("1", "3", "15", "17", "18", "24", "-2", *NO_WRITTEN):
            if bad != "/":
                self.misread_line(5, f"count {bad}", 1)
                self.misread_line(5, f"tangle a {bad}", 2)
        for gap in range(16):
            self.assertIsNone(self.check(5, f"turned a b {gap}"))
        for bad in ("16", "17", "100", "-1", *NO_WRITTEN):
            self.misread_line(5, f"turned a b {bad}", 3)

    def test_deeds(self):
        for word in ("over", "under", "join", "open", "turn"):
            for gap in range(24):
                self.assertIsNone(self.check(5, f"tangle a 4 / {word} {gap} / {word} {gap}"))
            for bad in ("24", "100", "-1", *NO_WRITTEN):
                self.misread_line(5, f"tangle a 4 / {word} {bad}", 5)
                self.misread_line(5, f"tangle a 4 / join 1 / {word} {bad} / join 1", 8)
        for bad in ("", "Over", "cross", "/", "0", "joins", "join\n"):
            self.misread_line(5, f"tangle a 4 / {bad}", 4)
            self.misread_line(5, f"tangle a 4 / {bad} 1 / join 1", 4)
        for line, at in (("tangle a 4 /", 4), ("tangle a 4 join 1", 3), ("tangle a 4 / join", 5), ("tangle a", 2),
                         ("tangle a 4 / join 1 join 1", 6), ("tangle a 4 / join 1 2", 6), ("tangle a / join 1", 2)):
            self.misread_line(5, line, at)

    def test_lines_are_read_ahead_of_all_else(self):
        desk = Desk(5)
        desk.tell("space a 1")
        for line in ("space a 5", "answers a b c", "drop b c", "free a 0", "undo undo", "tie a a a", "text b b"):
            self.assertEqual(self.raised(BadText, desk.tell, line).line, 0)


if __name__ == "__main__":
    unittest.main()
