"""What several modules demand of their parameters, and refuse by the parameter's name."""

from ropesays.checks import is_clock, is_row, is_within
from ropesays.errors import BadClock, BadNumber, BadRow


def demand_clock(clock):
    """Refuse what is no clock."""
    if not is_clock(clock):
        raise BadClock("clock")


def demand_within(value, least, most, part):
    """Refuse what is no integer from least to most; None is no bound."""
    if not is_within(value, least, most):
        raise BadNumber(part)


def demand_even(value, least, most, part):
    """Refuse what is no even integer from least to most."""
    if not is_within(value, least, most) or value % 2 != 0:
        raise BadNumber(part)


def demand_row(row, clock, least, most, part):
    """Refuse what is no row of a clock, of a size from least to most."""
    if not isinstance(row, (list, tuple)) or not least <= len(row) <= most:
        raise BadRow(part)
    if not is_row(row, clock, len(row)):
        raise BadRow(part)
