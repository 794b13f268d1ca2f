"""Promises 2 and 14: the answers of a new desk to the lines of a script, or the first one that raises."""

import random
import unittest

from ropesays.desk import Desk
from ropesays.errors import (
    BadClock, BadLine, BadNumber, BadRow, BadText, Misfit, NoName, Nothing, RopeError, TooMany, Twice)
from ropesays.scripts import tell_all
from tests.odd import CLOCKS, NO_CLOCKS, NO_LISTS
from tests.refusals import NO_STRINGS, Refusals
from tests.test_undo import ASKED, LINES


class Scripts(Refusals):

    def stops(self, clock, lines, at, kind, **fields):
        """A script is refused by the number of a line, and by the error that is raised there."""
        told = self.raised(BadLine, tell_all, clock, lines)
        self.assertEqual(told.line, at)
        self.assertIs(type(told.error), kind)
        self.assertEqual(vars(told.error), fields)


class TestExamples(Scripts):

    def test_answers(self):
        told = tell_all(3, ["space one 1 2 1 0", "beside two one", "text two", "drop one", "log", "count 8"])
        wanted = ("space 4 1", "space 4 3", "clock 3 size 4 / 1 0 1 0 / 0 1 0 0 / 0 0 0 1", "one",
                  "space one 1 2 1 0 / beside two one / drop one", "1120")
        self.assertEqual(told, wanted)

    def test_refusals(self):
        self.stops(5, ["names", "drop some"], 1, NoName, value="some")


class TestAnswers(Scripts):

    def test_no_lines(self):
        for clock in CLOCKS:
            self.assertEqual([tell_all(clock, []), tell_all(lines=(), clock=clock)], [(), ()])

    def test_as_a_desk_answers(self):
        source = random.Random(340)
        stopped = 0
        for clock in (3, 31):
            for _ in range(60):
                desk, answers, lines, error = Desk(clock), [], [], None
                for _ in range(source.choice((1, 5, 20))):
                    lines.append(source.choice(LINES[:17] + ASKED[:4] + ("undo",)))
                for line in lines:
                    try:
                        answers.append(desk.tell(line))
                    except RopeError as raised:
                        error = raised
                        break
                if error is None:
                    for given in (lines, tuple(lines)):
                        told = tell_all(clock, given)
                        self.assertIs(type(told), tuple)
                        self.assertEqual(told, tuple(answers))
                else:
                    self.stops(clock, lines, len(answers), type(error), **vars(error))
                    self.assertEqual(tell_all(clock, lines[:len(answers)]), tuple(answers))
                    stopped += 1
        self.assertGreater(stopped, 20)

    def test_each_time_a_new_desk(self):
        for _ in range(3):
            self.assertEqual(tell_all(5, ["space a 1", "log"]), ("space 1 1", "space a 1"))

    def test_undo_and_again(self):
        told = tell_all(5, ["space a 1", "space b 2", "undo", "undo", "again", "names", "again", "names"])
        wanted = ("space 1 1", "space 1 1", "space b 2", "space a 1", "space 1 1", "a", "space 1 1", "a b")
        self.assertEqual(told, wanted)

    def test_what_is_passed_stays(self):
        lines = ["space a 1", "undo"]
        tell_all(5, lines)
        self.assertEqual(lines, ["space a 1", "undo"])


class TestErrors(Scripts):

    def test_the_very_error(self):
        ahead = ["space a 1 2 3", "tangle t 4 / over 1 / join 1 / join 1"]
        for line, kind, fields in (
                ("space b 1 2 / 3", BadText, {"line": 0, "item": 6}), ("", BadText, {"line": 0, "item": 0}),
                ("undo\n", BadText, {"line": 0, "item": 0}), ("space a 1", Twice, {"value": "a"}),
                ("drop b", NoName, {"value": "b"}), ("tie b a", Misfit, {"part": "space"}),
                ("free a", Misfit, {"part": "tangle"}), ("again", Nothing, {}), ("led 1", BadRow, {"part": "row"}),
                ("turned b t 4", BadNumber, {"part": "gap"}),
                ("tangle b 0" + " / open 0" * 13, TooMany, {"what": "ends", "most": 24})):
            self.stops(5, ahead + [line], 2, kind, **fields)
            self.stops(5, (*ahead, "names", line, "drop a", line), 3, kind, **fields)
            # The first one is told, whatever comes behind it.
            self.stops(5, ahead + [line, "?", "drop b"], 2, kind, **fields)
        self.stops(5, ["undo"], 0, Nothing)

    def test_200_lines_and_one_more(self):
        lines = [f"space a{at} 1" for at in range(200)]
        self.assertEqual(tell_all(5, lines), ("space 1 1",) * 200)
        self.stops(5, lines + ["drop a0"], 200, TooMany, what="lines", most=200)
        self.stops(5, lines + ["names", "space b 1"], 201, TooMany, what="lines", most=200)
        self.assertEqual(len(tell_all(5, lines + ["undo", "space b 1", "names"])), 203)

    def test_no_clock(self):
        for value in NO_CLOCKS:
            self.refused(BadClock, "clock", tell_all, value, [])

    def test_no_list_of_strings(self):
        for value in NO_LISTS:
            self.misread(0, 0, lambda lines: tell_all(5, lines), value)
        for value in NO_STRINGS:
            for lines in ([value], ["names", value], (value, "names"), ["?", value], [["names"], value]):
                self.misread(0, 0, lambda given: tell_all(5, given), lines)

    def test_the_first_wrong_one_is_refused(self):
        self.refused(BadClock, "clock", tell_all, 4, None)
        self.refused(BadClock, "clock", tell_all, lines=[3], clock=None)
        self.misread(0, 0, lambda given: tell_all(5, given), ["?", None])


if __name__ == "__main__":
    unittest.main()
