"""Numbers round a clock, and the rows of them."""

from ropesays.demands import demand_clock, demand_row, demand_within
from ropesays.errors import Misfit

MOST_NUMBERS = 400


def number_of(clock, value):
    """The number that an integer is round the clock."""
    demand_clock(clock)
    demand_within(value, None, None, "value")
    return value % clock


def inverse(clock, number):
    """The number by which a number must be multiplied to come to 1."""
    demand_clock(clock)
    demand_within(number, 0, clock - 1, "number")
    if number == 0:
        raise Misfit("number")
    # A clock is a prime, so the power by clock - 1 of such a number is 1, and this one its inverse.
    power = 1
    for _ in range(clock - 2):
        power = power * number % clock
    return power


def row_sum(clock, one, other):
    """Two rows of one size, added number by number."""
    demand_clock(clock)
    demand_row(one, clock, 1, MOST_NUMBERS, "one")
    demand_row(other, clock, 1, MOST_NUMBERS, "other")
    if len(one) != len(other):
        raise Misfit("other")
    return tuple([(left + right) % clock for left, right in zip(one, other)])


def row_times(clock, number, row):
    """A row multiplied by a number."""
    demand_clock(clock)
    demand_within(number, 0, clock - 1, "number")
    demand_row(row, clock, 1, MOST_NUMBERS, "row")
    return tuple([number * each % clock for each in row])
