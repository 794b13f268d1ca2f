"""Equations tied into ropes: whites and blacks, the fair spaces that come about by answers, and their ropes."""

from ropesays.checks import is_within
from ropesays.demands import demand_clock, demand_row
from ropesays.errors import BadRow, Misfit
from ropesays.rims import MOST_GAPS, chess_rows
from ropesays.spaces import Space, demand_space, upright
from ropesays.systems import System, answers, demand_names
from ropesays.tangles import demand_tangle
from ropesays.through import through
from ropesays.tied import tied

# On fewer gaps there are neither whites nor blacks.
LEAST_GAPS = 4


def fair_of(space):
    """The fair space that comes about by a space: its rows as whites, what is upright on all of them as blacks."""
    demand_space(space, "space")
    gaps = 2 * space.size + 2
    if gaps > MOST_GAPS:
        raise Misfit("space")
    rows = [_row_of_whites(row) for row in space.rows]
    rows.extend([_row_of_blacks(space.clock, row) for row in upright(space).rows])
    return Space(space.clock, gaps, [*chess_rows(space.clock, gaps).rows, *rows])


def _row_of_whites(row):
    """The row that has these whites, and 0 in gap 0 and in all odd gaps."""
    told = [0, 0]
    for white in row:
        told.extend([white, 0])
    return told


def _row_of_blacks(clock, row):
    """The row that has these blacks, and 0 in gap 1 and in all even gaps."""
    told = [0, 0]
    for step in row:
        told.extend([0, (told[-1] + step) % clock])
    return told


def _whites_in(clock, row):
    """The whites of a row: what each even gap but gap 0 has, less what gap 0 has."""
    return tuple([(number - row[0]) % clock for number in row[2::2]])


def _blacks_in(clock, row):
    """The blacks of a row: what each odd gap but gap 1 has, less what the odd gap ahead of it has."""
    return tuple([(row[gap] - row[gap - 2]) % clock for gap in range(3, len(row), 2)])


def _demand_roped_row(clock, row):
    """Refuse what is no clock, and no row of it that has whites and blacks."""
    demand_clock(clock)
    demand_row(row, clock, LEAST_GAPS, MOST_GAPS, "row")
    if len(row) % 2 != 0:
        raise BadRow("row")


def whites(clock, row):
    """The whites of a row."""
    _demand_roped_row(clock, row)
    return _whites_in(clock, row)


def blacks(clock, row):
    """The blacks of a row."""
    _demand_roped_row(clock, row)
    return _blacks_in(clock, row)


def _demand_roped_space(space):
    """Refuse what is no Space of rows that have whites and blacks."""
    demand_space(space, "space")
    if not is_within(space.size, LEAST_GAPS, MOST_GAPS) or space.size % 2 != 0:
        raise Misfit("space")


def white_space(space):
    """The space of the whites of all rows of a space."""
    _demand_roped_space(space)
    return Space(space.clock, space.size // 2 - 1, [_whites_in(space.clock, row) for row in space.rows])


def black_space(space):
    """The space of the blacks of all rows of a space."""
    _demand_roped_space(space)
    return Space(space.clock, space.size // 2 - 1, [_blacks_in(space.clock, row) for row in space.rows])


def is_split(space):
    """Whether a space comes about by some other one."""
    # All rows of that one are whites, so it can be no other one than the space of these.
    return fair_of(white_space(space)) == space


def rope_of(system):
    """The tangle that is tied for the answers of a system."""
    return tied(fair_of(answers(system)))


def equations_of(tangle, clock, names):
    """The system of the equations that hold for the whites of all rows that a tangle lets through."""
    demand_tangle(tangle, "tangle")
    demand_clock(clock)
    demand_names(names)
    if tangle.ends < LEAST_GAPS:
        raise Misfit("tangle")
    if len(names) != tangle.ends // 2 - 1:
        raise Misfit("names")
    return System(clock, names, upright(white_space(through(tangle, clock))).rows)
