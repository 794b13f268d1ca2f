"""Promises 2 and 6: what a tangle keeps and refuses, its text, and how it is told from another gap."""

import unittest

from ropesays.errors import BadNumber, BadTangle, Misfit
from ropesays.papers import Paper
from ropesays.tangles import Tangle, turned
from tests.knots import WORDS, greatest_deeds, many_deeds, told_ends, told_gaps
from tests.odd import NO_INTEGERS, NO_LISTS
from tests.refusals import NO_STRINGS, NO_WRITTEN, Refusals

JOIN = ("join", 1)

NO_TANGLES = (*NO_INTEGERS, 4, (JOIN, JOIN), [JOIN], "ends 2\njoin 1", Tangle, Paper("tangle", 2, (JOIN,)))

NO_DEEDS = (
    (), [], ("join",), ("join", 1, 1), (1, "join"), ("join", "1"), ("Join", 1), ("join ", 1), ("", 1), ("twist", 1),
    (b"join", 1), (["join"], 1), (None, 1), ("join", -1), ("join", 24), ("join", 10 ** 30), ("open", 24), ("turn", [0]),
    {"join": 1, "open": 2}, "jo", "join 1", *[("join", value) for value in NO_INTEGERS],
    *[(value, 1) for value in NO_INTEGERS], *NO_LISTS,
)


def opens(many):
    return [("open", 0)] * many


def ring_of(ends):
    """Deeds that lead from a ring without ends to one of so many."""
    return opens(ends // 2)


def joins(ends):
    return [JOIN] * (ends // 2)


class TestExamples(Refusals):

    def setUp(self):
        self.curl = Tangle(4, [("over", 1), ["join", 1], ("join", 1)])
        self.one = Tangle(4, [("over", 1), ("turn", 1), ("join", 1), ("join", 1)])

    def test_kept(self):
        curl, one = self.curl, self.one
        told = [curl.ends, curl.deeds, str(one).split("\n"), Tangle.read(str(one)) == one, str(Tangle(0, [])),
                curl == one]
        wanted = [4, (("over", 1), ("join", 1), ("join", 1)), ["ends 4", "over 1", "turn 1", "join 1", "join 1"], True,
                  "ends 0", False]
        self.assertEqual(told, wanted)

    def test_turned(self):
        curl = self.curl
        told = [turned(curl, 1).deeds[0], turned(curl, 0) == curl, turned(gap=0, tangle=Tangle(0, ())).deeds]
        self.assertEqual(told, [("turn", 3), True, ()])

    def test_refusals(self):
        self.refused(Misfit, "deeds", Tangle, 2, [])
        self.refused(Misfit, "deeds", Tangle, 4, [("join", 3)])
        self.refused(BadTangle, "deeds", Tangle, 4, [("join", 24)])
        self.misread(2, 0, Tangle.read, "ends 4\njoin 1")
        self.misread(1, 1, Tangle.read, "ends 4\njoin 3")
        self.misread(2, 0, Tangle.read, "ends 2\njoin 1\nover 0")
        self.refused(BadNumber, "gap", turned, self.one, 4)


class TestTangle(Refusals):

    def test_what_it_keeps(self):
        for ends, deeds in many_deeds():
            for given in (deeds, tuple(deeds), [list(deed) for deed in deeds], tuple(map(list, deeds))):
                tangle = Tangle(ends, given)
                self.assertEqual((tangle.ends, tangle.deeds), (ends, tuple(deeds)))
                self.assertTrue(all(isinstance(deed, tuple) for deed in tangle.deeds))
        self.assertEqual(Tangle(deeds=[JOIN], ends=2).ends, 2)

    def test_what_is_passed_is_copied(self):
        deeds = [["over", 0], ["join", 1]]
        tangle = Tangle(2, deeds)
        self.assertEqual(deeds, [["over", 0], ["join", 1]])
        deeds[0][0] = "under"
        deeds.append(["open", 0])
        self.assertEqual(tangle.deeds, (("over", 0), ("join", 1)))

    def test_ends(self):
        for ends in range(0, 17, 2):
            self.assertEqual(Tangle(ends, joins(ends)).ends, ends)
        for ends in (-2, -1, 1, 3, 15, 17, 18, 24, 10 ** 30, *NO_INTEGERS):
            self.refused(BadTangle, "ends", Tangle, ends, [])

    def test_no_deeds(self):
        for value in NO_DEEDS:
            self.refused(BadTangle, "deeds", Tangle, 2, [JOIN, value])
            self.refused(BadTangle, "deeds", Tangle, 2, (value, JOIN))
        for value in (("join", 1), "join 1", {("join", 1): 1}, *NO_LISTS):
            self.refused(BadTangle, "deeds", Tangle, 2, value)

    def test_each_deed_on_each_ring(self):
        for ends in range(0, 25, 2):
            for word in WORDS:
                for gap in range(24):
                    behind = told_ends(word, ends)
                    deeds = ring_of(ends) + [(word, gap)] + joins(behind)
                    if gap not in told_gaps(word, ends):
                        self.refused(Misfit, "deeds", Tangle, 0, deeds)
                    elif behind > 24:
                        self.too_many("ends", 24, Tangle, 0, deeds)
                    else:
                        self.assertEqual(Tangle(0, deeds).deeds[ends // 2], (word, gap))

    def test_ends_that_are_left(self):
        for ends in range(2, 17, 2):
            for fewer in range(1, ends // 2 + 1):
                self.refused(Misfit, "deeds", Tangle, ends, joins(ends)[fewer:])
            self.refused(Misfit, "deeds", Tangle, ends, joins(ends) + [JOIN])
        self.refused(Misfit, "deeds", Tangle, 0, opens(1))
        self.assertEqual(len(Tangle(0, opens(12) + joins(24)).deeds), 24)

    def test_rings_of_24_ends(self):
        self.too_many("ends", 24, Tangle, 0, opens(13))
        self.too_many("ends", 24, Tangle, 16, opens(5))
        self.assertEqual(Tangle(16, opens(4) + joins(24)).ends, 16)
        for gap in range(24):
            self.too_many("ends", 24, Tangle, 0, opens(12) + [("open", gap)] + joins(24))
            Tangle(0, opens(12) + [("over", gap), ("turn", gap), ("under", gap)] + joins(24))
        # The first deed that cannot be done tells.
        self.too_many("ends", 24, Tangle, 0, opens(13) + [("join", 0)])
        self.refused(Misfit, "deeds", Tangle, 0, [("join", 1)] + opens(13))
        self.refused(Misfit, "deeds", Tangle, 16, opens(4) + [("join", 0), ("open", 0)])
        self.refused(Misfit, "deeds", Tangle, 16, opens(4) + [("join", 23), ("open", 0)])

    def test_four_thousand_deeds(self):
        tangle = Tangle(0, greatest_deeds())
        self.assertEqual((len(tangle.deeds), Tangle.read(str(tangle))), (4000, tangle))
        self.assertEqual(len(Tangle(2, [("over", 1)] * 3999 + [JOIN]).deeds), 4000)
        self.refused(BadTangle, "deeds", Tangle, 2, [("over", 1)] * 4000 + [JOIN])
        self.refused(BadTangle, "deeds", Tangle, 0, greatest_deeds() + [("open", 0)])
        self.refused(BadTangle, "deeds", Tangle, 2, (("over", 23),) * 4001)

    def test_the_first_wrong_one_is_refused(self):
        self.refused(BadTangle, "ends", Tangle, 3, None)
        self.refused(BadTangle, "ends", Tangle, deeds=[("join", 24)], ends=True)
        self.refused(BadTangle, "ends", Tangle, 18, opens(13))
        # Whether the deeds are deeds comes ahead of whether they fit.
        self.refused(BadTangle, "deeds", Tangle, 4, [("join", 3), ("join", 24)])
        self.refused(BadTangle, "deeds", Tangle, 0, opens(13) + [("over", True)])
        self.refused(Misfit, "deeds", Tangle, 4, [("join", 3), *opens(20)])

    def test_equality(self):
        tangles = [Tangle(0, []), Tangle(2, [JOIN]), Tangle(4, [JOIN, JOIN]), Tangle(4, [("join", 2), JOIN]),
                   Tangle(2, [("over", 1), JOIN]), Tangle(2, [("under", 1), JOIN])]
        for one in tangles:
            for other in tangles:
                self.assertIs(one == other, one is other)
                self.assertIs(one != other, one is not other)
            self.assertIs(one == Tangle(one.ends, list(map(list, one.deeds))), True)
            for value in (None, one.deeds, one.ends, str(one), (one.ends, one.deeds), object()):
                self.assertIs(one == value, False)
                self.assertIs(value == one, False)


class TestText(Refusals):

    def test_written_and_read(self):
        for ends, deeds in many_deeds(2):
            tangle = Tangle(ends, deeds)
            self.assertEqual(str(tangle), "\n".join([f"ends {ends}"] + [f"{word} {gap}" for word, gap in deeds]))
            told = Tangle.read(text=str(tangle))
            self.assertIs(type(told), Tangle)
            self.assertEqual((told.ends, told.deeds), (ends, tuple(deeds)))

    def test_no_strings(self):
        for value in NO_STRINGS:
            self.misread(0, 0, Tangle.read, value)

    def test_line_0(self):
        odd = [str(number) for number in (-2, -1, 1, 3, 15, 17, 18, 24, 10 ** 59)]
        for bad in (*odd, *NO_WRITTEN):
            self.misread(0, 1, Tangle.read, "ends " + bad)
            self.misread(0, 1, Tangle.read, "ends " + bad + " 1\njoin 1")
        for text, item in (("", 0), ("\n", 0), ("end 0", 0), ("Ends 0", 0), (" ends 0", 0), ("0", 0), ("ends", 1),
                           ("ends ", 1), ("ends  0", 1), ("ends 0 ", 2), ("ends 0 0", 2), ("ends\n0", 1)):
            self.misread(0, item, Tangle.read, text)

    def test_item_by_item(self):
        def wrong(line, at):
            if line == 0:
                return ("end", "", "join", "0") if at == 0 else ("1", "17", "18", *NO_WRITTEN)
            return ("", "Over", "crossing", "0", "join1") if at == 0 else ("24", "-1", "10", *NO_WRITTEN)

        for text in ("ends 2\njoin 1", "ends 4\nover 3\nunder 0\nturn 2\njoin 2\nopen 1\njoin 1\njoin 1"):
            self.misread_item_by_item(Tangle.read, text, wrong)

    def test_each_deed_on_each_ring(self):
        for ends in range(0, 25, 2):
            lines = ["ends 0"] + ["open 0"] * (ends // 2)
            for word in WORDS:
                behind = told_ends(word, ends)
                fitting = told_gaps(word, ends) if behind <= 24 else []
                for gap in range(-1, 26):
                    text = "\n".join(lines + [f"{word} {gap}"] + ["join 1"] * (behind // 2))
                    if not fitting:
                        self.misread(len(lines), 0, Tangle.read, text)
                    elif gap not in fitting:
                        self.misread(len(lines), 1, Tangle.read, text)
                    else:
                        self.assertEqual(str(Tangle.read(text)), text)
                self.misread(len(lines), 1 if fitting else 0, Tangle.read, "\n".join(lines + [word]))

    def test_lines_missing_or_too_many(self):
        for ends in range(2, 17, 2):
            lines = [f"ends {ends}"] + ["join 1"] * (ends // 2)
            for many in range(1, len(lines)):
                self.misread(many, 0, Tangle.read, "\n".join(lines[:many]))
            self.misread(len(lines), 0, Tangle.read, "\n".join(lines + ["join 1"]))
            self.misread(len(lines), 0, Tangle.read, "\n".join(lines + [""]))
            self.misread(len(lines) + 1, 0, Tangle.read, "\n".join(lines + ["open 0"]))
        self.misread(1, 0, Tangle.read, "ends 0\n")
        self.misread(1, 0, Tangle.read, "ends 2\n")
        self.misread(1, 2, Tangle.read, "ends 2\njoin 1 ")
        self.misread(1, 1, Tangle.read, "ends 2\njoin\n1")

    def test_four_thousand_deeds(self):
        text = "\n".join(["ends 2"] + ["over 0"] * 3999 + ["join 1"])
        self.assertEqual(str(Tangle.read(text)), text)
        for more in ("open 0", "", "x", "over 0", "open"):
            self.misread(4001, 0, Tangle.read, text + "\n" + more)
        text = "\n".join(["ends 2"] + ["over 0"] * 4000)
        self.misread(4001, 0, Tangle.read, text)
        self.misread(4001, 0, Tangle.read, text + "\njoin 1")
        self.misread(4000, 1, Tangle.read, text[:-1] + "2\njoin 1")

    def test_the_first_line_counts(self):
        self.misread(0, 1, Tangle.read, "ends 3\njoin 9\n")
        self.misread(1, 1, Tangle.read, "ends 4\njoin 3\nover 24\nx")
        self.misread(2, 0, Tangle.read, "ends 4\njoin 1\nover1\njoin")


class TestTurned(Refusals):

    def test_each_gap(self):
        for ends, deeds in many_deeds(3):
            tangle = Tangle(ends, deeds)
            for gap in range(max(ends, 1)):
                told = turned(tangle, gap)
                self.assertIs(type(told), Tangle)
                wanted = tuple(deeds) if gap == 0 else (("turn", ends - gap), *deeds)
                self.assertEqual((told.ends, told.deeds), (ends, wanted))
            self.assertEqual((tangle.ends, tangle.deeds), (ends, tuple(deeds)))

    def test_no_gaps_of_the_rim(self):
        for ends in range(0, 17, 2):
            tangle = Tangle(ends, joins(ends))
            for gap in (-1, max(ends, 1), ends + 1, 24, 10 ** 30, *NO_INTEGERS):
                self.refused(BadNumber, "gap", turned, tangle, gap)

    def test_no_tangle(self):
        for value in NO_TANGLES:
            self.refused(BadTangle, "tangle", turned, value, 0)
        self.refused(BadTangle, "tangle", turned, gap=None, tangle=None)

    def test_four_thousand_deeds(self):
        most, fewer = [Tangle(4, [("over", 1)] * many + [JOIN, JOIN]) for many in (3998, 3997)]
        self.assertEqual(turned(most, 0), most)
        self.assertEqual(len(turned(fewer, 3).deeds), 4000)
        for gap in (1, 2, 3):
            self.too_many("deeds", 4000, turned, most, gap)
        self.refused(BadNumber, "gap", turned, most, 4)


if __name__ == "__main__":
    unittest.main()
