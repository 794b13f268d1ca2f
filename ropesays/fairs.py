"""Fair spaces: those that are just what agrees with them."""

from ropesays.demands import demand_clock, demand_even
from ropesays.errors import TooMany
from ropesays.forms import lead_of
from ropesays.rims import MOST_GAPS, beside, chess_rows
from ropesays.spaces import Space, demand_space, rest_of, rows_in

MOST_SPACES = 400


def is_fair(space):
    """Whether a space is fair."""
    demand_space(space, "space")
    if space.size == 1:
        return space.depth == 1
    return beside(space) == space


def fair_count(clock, ends):
    """How many fair spaces a rim with so many ends has."""
    demand_clock(clock)
    demand_even(ends, 0, MOST_GAPS, "ends")
    many = 1
    power = 1
    for _ in range(ends // 2 - 1):
        power = power * clock
        many = many * (power + 1)
    return many


def fair_spaces(clock, ends):
    """All fair spaces of a rim with so many ends, ascending by their rows in least form."""
    if fair_count(clock, ends) > MOST_SPACES:
        raise TooMany("spaces", MOST_SPACES)
    if ends == 0:
        return (Space(clock, 1, [(1,)]),)
    found = [chess_rows(clock, ends)]
    for _ in range(ends // 2 - 1):
        found = [wider for space in found for wider in _widened(space)]
    return tuple(sorted(found, key=lambda each: each.rows))


def _widened(space):
    """The spaces of one row more in which all rows agree, and this one leads ahead of all but the chess rows.

    So the rows behind those two are added from the last one on, and each fair space comes about just once.
    """
    end = space.size
    if space.depth > 2:
        end = lead_of(space.rows[2])
    agreeing = Space(space.clock, space.size, [rest_of(space, row) for row in beside(space).rows])
    added = [row for row in rows_in(agreeing) if lead_of(row) < end and row[lead_of(row)] == 1]
    return [Space(space.clock, space.size, [*space.rows, row]) for row in added]
