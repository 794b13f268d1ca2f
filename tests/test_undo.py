"""Promises 2 and 14: undo and again, the log behind each, and desks that are told another one's log."""

import random
import unittest

from ropesays.desk import Desk
from ropesays.errors import BadText, Misfit, NoName, Nothing, RopeError, Twice
from tests.refusals import Refusals

ASKED = ("names", "log", "count 4", "led 0 1 0 2", "isfair c", "text a", "text b", "text c", "picture t", "ropes u")
LINES = (
    "space a 1 2", "space a 0 1 / 1 0", "space b 1 1 2 0", "space c 1 0 / 0 1", "beside c b", "beside a a",
    "system s x / x = 0", "answers a s", "fair b a", "tangle t 2 / join 1",
    "tangle u 4 / over 1 / join 1 / join 1", "pull v u", "through c u", "turned w u 2",
    "closed x u u", "tie y c", "rope z s", "drop a", "drop b", "drop c", "drop s", "drop t", "drop u",
    "drop z", "whites a b", "space 1", "closed x t u", "fair d c",
)


def outcome(desk, line):
    """The answer, or what was raised."""
    try:
        return desk.tell(line)
    except RopeError as error:
        return type(error).__name__, tuple(sorted(vars(error).items()))


def all_told(desk):
    """All that a desk tells of what it keeps."""
    names = desk.tell("names")
    return names, desk.log, [(name, str(desk.kept(name))) for name in names.split(" ") if names != "-"]


def retold(desk):
    """A new desk that is told the log of another one."""
    other = Desk(desk.clock)
    for line in desk.log:
        other.tell(line)
    return other


class TestByHand(Refusals):

    def test_undo(self):
        desk = Desk(5)
        lines = ("space a 1 2", "drop a", "system a x", "beside b c")
        for line in lines[:3]:
            desk.tell(line)
        self.assertEqual(self.raised(NoName, desk.tell, lines[3]).value, "c")
        for many in (2, 1, 0):
            self.assertEqual((desk.tell("undo"), desk.log), (lines[many], lines[:many]))
        self.assertEqual((desk.tell("names"), desk.tell("log")), ("-", "-"))
        self.raised(Nothing, desk.tell, "undo")

    def test_what_was_dropped_is_there_again(self):
        desk = Desk(5)
        for line in ("space a 1 2", "drop a", "tangle a 0"):
            desk.tell(line)
        self.assertEqual([desk.tell("undo"), desk.tell("names")], ["tangle a 0", "-"])
        self.assertEqual([desk.tell("undo"), desk.tell("text a")], ["drop a", "clock 5 size 2 / 1 2"])
        self.assertEqual([desk.tell("again"), desk.tell("names")], ["a", "-"])
        self.assertEqual([desk.tell("again"), desk.tell("text a")], ["tangle 0", "ends 0"])
        self.raised(Nothing, desk.tell, "again")

    def test_again_one_behind_another(self):
        desk = Desk(5)
        lines = ["space a 1", "space b 2", "space c 3"]
        for line in lines:
            desk.tell(line)
        for _ in lines:
            desk.tell("undo")
        for many in (1, 2, 3):
            self.assertEqual([desk.tell("again"), list(desk.log)], ["space 1 1", lines[:many]])
        self.raised(Nothing, desk.tell, "again")

    def test_what_ends_again(self):
        for line, answer in (("space d 1", "space 1 1"), ("drop a", "a"), ("beside e p", "space 2 2")):
            desk = Desk(5)
            for each in ("space p 1 1", "space a 1", "space b 1", "space c 1"):
                desk.tell(each)
            desk.tell("undo")
            desk.tell("undo")
            self.assertEqual(desk.tell(line), answer)
            self.raised(Nothing, desk.tell, "again")
            # What is taken back now can be told again, and nothing from before.
            self.assertEqual([desk.tell("undo"), desk.tell("again")], [line, answer])
            self.raised(Nothing, desk.tell, "again")

    def test_what_does_not_end_it(self):
        desk = Desk(5)
        for line in ("space a 1", "space b 2", "space c 3"):
            desk.tell(line)
        desk.tell("undo")
        desk.tell("undo")
        for line in ("names", "log", "holds a 1", "text a", "count 2"):
            desk.tell(line)
        # Lines that raise are not kept.
        for line, kind in (("space a 1", Twice), ("drop b", NoName), ("free a", Misfit), ("space d 5", BadText),
                           ("fair d b", NoName), ("turned d a 0", Misfit), ("beside d a", Misfit)):
            self.raised(kind, desk.tell, line)
        self.assertEqual([desk.tell("again"), desk.tell("undo"), desk.tell("again"), desk.tell("again")],
                         ["space 1 1", "space b 2", "space 1 1", "space 1 1"])
        self.assertEqual(desk.log, ("space a 1", "space b 2", "space c 3"))

    def test_undo_again_undo(self):
        desk = Desk(3)
        for line in ("space a 1", "drop a", "space a 2 0"):
            desk.tell(line)
        self.assertEqual([desk.tell(line) for line in ("undo", "undo", "again", "undo", "undo")],
                         ["space a 2 0", "drop a", "a", "drop a", "space a 1"])
        self.assertEqual([desk.tell("again") for _ in range(3)], ["space 1 1", "a", "space 2 1"])
        self.raised(Nothing, desk.tell, "again")


class TestByChance(Refusals):

    def test_as_a_log_tells(self):
        """The log, and what was taken back, tell all: by telling the log to a new desk each time."""
        source = random.Random(330)
        counts = {}
        for clock in (3, 5, 31):
            for _ in range(25):
                desk, log, undone = Desk(clock), [], []
                for _ in range(40):
                    line = source.choice(LINES + ("undo", "again") * 9)
                    model = Desk(clock)
                    for each in log:
                        model.tell(each)
                    if line == "undo":
                        wanted = log[-1] if log else ("Nothing", ())
                        if log:
                            undone.append(log.pop())
                    elif line == "again":
                        wanted = outcome(model, undone[-1]) if undone else ("Nothing", ())
                        if undone:
                            log.append(undone.pop())
                    else:
                        wanted = outcome(model, line)
                        if isinstance(wanted, str):
                            log.append(line)
                            undone = []
                    self.assertEqual(outcome(desk, line), wanted)
                    self.assertEqual(desk.log, tuple(log))
                    kind = line.split(" ")[0] + ("" if isinstance(wanted, str) else " raises")
                    counts[kind] = counts.get(kind, 0) + 1
                self.assertEqual(all_told(desk), all_told(retold(desk)))
        kinds = ("undo", "again", "drop", "space", "tie", "again raises")
        self.assertGreater(min(counts.get(kind, 0) for kind in kinds), 9)

    def test_retold_desks_answer_likewise(self):
        source = random.Random(331)
        for _ in range(30):
            desk = Desk(3)
            for _ in range(30):
                outcome(desk, source.choice(LINES + ("undo",) * 5))
            other = retold(desk)
            self.assertEqual(all_told(desk), all_told(other))
            for line in ASKED:
                self.assertEqual(outcome(desk, line), outcome(other, line))
            for _ in range(15):
                line = source.choice(LINES + ASKED + ("undo",))
                self.assertEqual(outcome(desk, line), outcome(other, line))
            self.assertEqual(all_told(desk), all_told(other))

    def test_all_back_and_all_again(self):
        source = random.Random(332)
        for _ in range(15):
            desk = Desk(5)
            states = [all_told(desk)]
            answers = []
            while len(answers) < 20:
                told = outcome(desk, source.choice(LINES))
                if isinstance(told, str):
                    answers.append(told)
                    states.append(all_told(desk))
            for at in reversed(range(20)):
                desk.tell("undo")
                self.assertEqual(all_told(desk), states[at])
            for at in range(20):
                self.assertEqual(desk.tell("again"), answers[at])
                self.assertEqual(all_told(desk), states[at + 1])


if __name__ == "__main__":
    unittest.main()
