"""Ropes for a fair space: a tangle that lets through just its rows."""

from ropesays.clocks import inverse
from ropesays.demands import demand_clock, demand_even
from ropesays.errors import Misfit
from ropesays.fairs import is_fair
from ropesays.forms import least_form
from ropesays.games import game_for, strange_gap
from ropesays.rims import MOST_GAPS, alternates
from ropesays.steps import crossed, step_at
from ropesays.tangles import Tangle


def tied_most(clock, ends):
    """How many crossings at most are in the tangle that is tied for a fair space of a rim with so many ends."""
    demand_clock(clock)
    demand_even(ends, 0, MOST_GAPS, "ends")
    ropes = ends // 2
    if ropes == 0:
        return 0
    return (3 * ropes - 1) * (ropes - 1) * (clock - 1) // 2


class Tying:
    """The rows of a fair space as deeds lead them, from the rim inward."""

    def __init__(self, clock, rows):
        self.clock = clock
        self.rows = rows
        self.deeds = []

    def narrow(self):
        """Lead the rows until all have alike numbers in the two gaps beside a gap, and join there."""
        at = [alternates(row) for row in self.rows].index(False)
        for gap, number in game_for(self.clock, self.rows[at]):
            self._cross(gap, self._times_to(self.rows[at], gap, number))
        # All rows agree with this one; so they have alike neighbours where it is strange.
        self._join(strange_gap(self.rows[at]))

    def _times_to(self, row, gap, number):
        """How many overs set the number in a gap of a row; as many unders, where it is below 0."""
        times = (number - row[gap]) * inverse(self.clock, step_at(row, gap) % self.clock) % self.clock
        # So many overs less make as many unders, if these are fewer.
        return times if times <= self.clock // 2 else times - self.clock

    def _cross(self, gap, times):
        """Cross so many times at a gap, over it or, below 0, under it."""
        self.deeds.extend([("over" if times > 0 else "under", gap)] * abs(times))
        self.rows = [crossed(self.clock, row, gap, times) for row in self.rows]

    def _join(self, gap):
        """Turn so that a gap becomes gap 1, and join there."""
        size = len(self.rows[0])
        turn = (gap - 1) % size
        if turn > 0:
            self.deeds.append(("turn", turn))
        self.deeds.append(("join", 1))
        told = [row[turn:] + row[:turn] for row in self.rows]
        # Gap 2 is one with gap 0, and any number stood in gap 1.
        self.rows = least_form(self.clock, size - 2, [row[:1] + row[3:] for row in told])


def tied(space):
    """A tangle without opens that ties a fair space."""
    if not is_fair(space):
        raise Misfit("space")
    if space.size == 1:
        return Tangle(0, [])
    tying = Tying(space.clock, space.rows)
    while len(tying.rows[0]) > 2:
        tying.narrow()
    return Tangle(space.size, tying.deeds + [("join", 1)])
