"""The game of a ring: where a number may be set, and a game for each row but chess rows."""

from ropesays.demands import demand_clock, demand_within
from ropesays.errors import Misfit
from ropesays.games import game_for
from ropesays.papers import Denial, Paper
from ropesays.rims import demand_rim_row, is_chess
from ropesays.steps import changed, step_at


class Led(Paper):
    """A row can be led to one that is nearly chess: the sets of a game, pairs of a gap and a number."""

    def __init__(self, sets):
        super().__init__("led", sets)
        self.sets = self.parts[0]


class Chess(Denial):
    """A row is a chess row, so no game leads it."""

    def __init__(self):
        super().__init__("chess")


def may_set(clock, row, gap):
    """Whether the number of a gap may be set: its neighbours are unlike."""
    demand_clock(clock)
    demand_rim_row(clock, row, "row")
    demand_within(gap, 0, len(row) - 1, "gap")
    return step_at(row, gap) != 0


def set_at(clock, row, gap, number):
    """A row with another number in a gap where it may be set."""
    fits = may_set(clock, row, gap)
    demand_within(number, 0, clock - 1, "number")
    if not fits:
        raise Misfit("gap")
    return changed(tuple(row), gap, number)


def judged_ring(clock, row):
    """The Led of a game for a row; Chess() for a chess row."""
    if is_chess(clock, row):
        return Chess()
    return Led(game_for(clock, row))
