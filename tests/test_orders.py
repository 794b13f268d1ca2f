"""Promise 2: the first wrong parameter is refused, whatever those behind it are."""

import inspect
import unittest

from ropesays.bands import Band, chained, idle, let_in, passing, put_ahead
from ropesays.check_rings import shows_ring
from ropesays.check_rows import shows_row
from ropesays.check_same import shows_same
from ropesays.check_tied import shows_tied
from ropesays.clocks import inverse, number_of, row_sum, row_times
from ropesays.closings import closed, closed_depth, depths_of, lead_in
from ropesays.errors import BadClock, BadNumber, BadRow, BadSpace, BadSystem, BadTangle, BadWord
from ropesays.fairs import fair_count, fair_spaces, is_fair
from ropesays.fewest import fewest_sets
from ropesays.markings import broken_at, markings
from ropesays.moves import moved, moves_at, pulled
from ropesays.pictures import filled, picture
from ropesays.regions import crossings_of, regions_of, rim_of, rings_of
from ropesays.rims import beside, chess_rows, is_chess, swing, turned_space
from ropesays.rings import judged_ring, may_set, set_at
from ropesays.roped import black_space, blacks, equations_of, fair_of, is_split, rope_of, white_space, whites
from ropesays.ropes import loops_of, ropes_of
from ropesays.rows import judged_row
from ropesays.same import judged_same
from ropesays.spaces import Space, holds, joined_space, meeting, rows_in, upright
from ropesays.systems import System, answers
from ropesays.tangles import Tangle, turned
from ropesays.through import free_depth, through
from ropesays.tied import tied, tied_most
from tests.odd import Agreeing, Refusing
from tests.refusals import Refusals

TANGLE = Tangle(4, [("over", 1), ("join", 1), ("join", 1)])
ROW = (0, 1, 0, 2)
SPACE = through(TANGLE, 5)
SYSTEM = System(5, ["x"], [[1]])
BAND = Band(4, 4, [("over", 1), ("turn", 2)])

CLOCK = ("clock", BadClock, 5)
TANGLES = ("tangle", BadTangle, TANGLE)
SPACES = ("space", BadSpace, SPACE)
ROWS = ("row", BadRow, ROW)


def of(name, kind, value):
    """A parameter: its name, the error that refuses it, and a value that is right."""
    return (name, kind, value)


# Each function with its parameters in their order.
CALLS = (
    (number_of, CLOCK, of("value", BadNumber, 3)),
    (inverse, CLOCK, of("number", BadNumber, 3)),
    (row_sum, CLOCK, of("one", BadRow, ROW), of("other", BadRow, ROW)),
    (row_times, CLOCK, of("number", BadNumber, 3), ROWS),
    (Space, CLOCK, of("size", BadNumber, 4), of("rows", BadRow, [ROW])),
    (holds, SPACES, ROWS),
    (meeting, of("one", BadSpace, SPACE), of("other", BadSpace, SPACE)),
    (joined_space, of("one", BadSpace, SPACE), of("other", BadSpace, SPACE)),
    (upright, SPACES), (rows_in, SPACES),
    (swing, CLOCK, of("one", BadRow, ROW), of("other", BadRow, ROW)),
    (is_chess, CLOCK, ROWS), (chess_rows, CLOCK, of("ends", BadNumber, 4)),
    (beside, SPACES), (turned_space, SPACES, of("gap", BadNumber, 1)),
    (is_fair, SPACES), (fair_count, CLOCK, of("ends", BadNumber, 4)), (fair_spaces, CLOCK, of("ends", BadNumber, 4)),
    (Tangle, of("ends", BadTangle, 4), of("deeds", BadTangle, [("join", 1), ("join", 1)])),
    (turned, TANGLES, of("gap", BadNumber, 1)),
    (regions_of, TANGLES), (rim_of, TANGLES), (rings_of, TANGLES), (crossings_of, TANGLES),
    (ropes_of, TANGLES), (loops_of, TANGLES),
    (broken_at, TANGLES, CLOCK, of("marks", BadRow, (0, 1, 2, 1))), (markings, TANGLES, CLOCK),
    (through, TANGLES, CLOCK), (free_depth, TANGLES, CLOCK),
    (judged_row, TANGLES, CLOCK, ROWS), (shows_row, TANGLES, CLOCK, ROWS, of("value", None, None)),
    (moves_at, TANGLES, of("at", BadNumber, 0)),
    (moved, TANGLES, of("at", BadNumber, 0), of("word", BadWord, "curl")), (pulled, TANGLES),
    (may_set, CLOCK, ROWS, of("gap", BadNumber, 0)),
    (set_at, CLOCK, ROWS, of("gap", BadNumber, 0), of("number", BadNumber, 2)),
    (judged_ring, CLOCK, ROWS), (shows_ring, CLOCK, ROWS, of("value", None, None)), (fewest_sets, CLOCK, ROWS),
    (tied_most, CLOCK, of("ends", BadNumber, 4)), (tied, SPACES),
    (shows_tied, SPACES, of("value", None, None)),
    (System, CLOCK, of("names", BadSystem, ["x"]), of("rows", BadSystem, [[1]])),
    (answers, of("system", BadSystem, SYSTEM)),
    (fair_of, of("space", BadSpace, Space(5, 2, []))), (whites, CLOCK, ROWS), (blacks, CLOCK, ROWS),
    (white_space, SPACES), (black_space, SPACES), (is_split, SPACES), (rope_of, of("system", BadSystem, SYSTEM)),
    (equations_of, TANGLES, CLOCK, of("names", BadSystem, ["x"])),
    (lead_in, TANGLES), (closed, of("one", BadTangle, TANGLE), of("other", BadTangle, TANGLE)),
    (closed_depth, of("one", BadTangle, TANGLE), of("other", BadTangle, TANGLE), CLOCK), (depths_of, TANGLES),
    (judged_same, of("one", BadTangle, TANGLE), of("other", BadTangle, TANGLE), CLOCK),
    (shows_same, of("one", BadTangle, TANGLE), of("other", BadTangle, TANGLE), CLOCK, of("value", None, None)),
    (Band, of("ends", BadTangle, 4), of("inner", BadTangle, 2), of("deeds", BadTangle, [("join", 1)])),
    (idle, of("ends", BadNumber, 4)), (put_ahead, of("band", BadTangle, BAND), TANGLES),
    (chained, of("one", BadTangle, BAND), of("other", BadTangle, BAND)), (passing, of("band", BadTangle, BAND), CLOCK),
    (let_in, of("band", BadTangle, BAND), SPACES),
    (picture, TANGLES), (filled, TANGLES, CLOCK, of("marks", BadRow, (0, 1, 2, 1))),
)

# Right for no parameter of these.
WRONG = (None, True, 4.0, "5", "", b"", {}, object(), [[[]]], -1, 10 ** 30, int, Agreeing(), Refusing())


class TestOrders(Refusals):

    def test_names_and_right_values(self):
        for call, *parameters in CALLS:
            names = [name for name, _, _ in parameters]
            self.assertEqual(list(inspect.signature(call).parameters), names)
            by_place = call(*[value for _, _, value in parameters])
            by_name = call(**{name: value for name, _, value in reversed(parameters)})
            self.assertEqual(by_place, by_name)

    def test_the_first_wrong_one_is_refused(self):
        for call, *parameters in CALLS:
            # number_of takes any integer, so some of the wrong values are right ones for it.
            wrong = [value for value in WRONG if call is not number_of or type(value) is not int]
            for at, (name, kind, _) in enumerate(parameters):
                if kind is None:
                    continue
                for bad in wrong:
                    right = [value for _, _, value in parameters[:at]]
                    behind = [value for _, _, value in parameters[at + 1:]]
                    self.refused(kind, name, call, *right, bad, *behind)
                    for other in (None, bad, 10 ** 30):
                        self.refused(kind, name, call, *right, bad, *[other] * len(behind))
                    named = dict(zip([each for each, _, _ in parameters], [*right, bad, *[None] * len(behind)]))
                    self.refused(kind, name, call, **named)


if __name__ == "__main__":
    unittest.main()
