"""Rims: swings, chess rows, and the spaces of what agrees."""

from ropesays.checks import is_within
from ropesays.demands import demand_clock, demand_even, demand_row, demand_within
from ropesays.errors import BadRow, Misfit
from ropesays.spaces import Space, demand_space, upright
from ropesays.steps import step_at

MOST_GAPS = 16


def demand_rim_row(clock, row, part):
    """Refuse what is no row of the gaps of a rim with ends."""
    demand_row(row, clock, 2, MOST_GAPS, part)
    if len(row) % 2 != 0:
        raise BadRow(part)


def swing(clock, one, other):
    """The sum, over all gaps k, of one[k] other[k + 1] - one[k + 1] other[k], round the clock."""
    demand_clock(clock)
    demand_rim_row(clock, one, "one")
    demand_rim_row(clock, other, "other")
    if len(one) != len(other):
        raise Misfit("other")
    return sum([number * step for number, step in zip(other, _steps(one))]) % clock


def _steps(row):
    """For each gap the number of the gap ahead of it, less that of the gap behind it."""
    return [step_at(row, gap) for gap in range(len(row))]


def is_chess(clock, row):
    """Whether a row is a chess row."""
    demand_clock(clock)
    demand_rim_row(clock, row, "row")
    return alternates(row)


def alternates(row):
    """Whether the numbers of a row at even places are all alike, and so are those at odd ones."""
    return all([number == row[at % 2] for at, number in enumerate(row)])


def chess_rows(clock, ends):
    """The space of all chess rows of so many gaps."""
    demand_clock(clock)
    demand_even(ends, 2, MOST_GAPS, "ends")
    return Space(clock, ends, [(1, 0) * (ends // 2), (0, 1) * (ends // 2)])


def beside(space):
    """The space of all rows that agree with each row of a space."""
    demand_space(space, "space")
    if space.size % 2 != 0 or not is_within(space.size, 2, MOST_GAPS):
        raise Misfit("space")
    # The swing of two rows is the sum of the products of the one's numbers and the other's steps.
    steps = [[step % space.clock for step in _steps(row)] for row in space.rows]
    return upright(Space(space.clock, space.size, steps))


def turned_space(space, gap):
    """A space told from a gap on."""
    demand_space(space, "space")
    demand_within(gap, 0, space.size - 1, "gap")
    return Space(space.clock, space.size, [row[gap:] + row[:gap] for row in space.rows])
