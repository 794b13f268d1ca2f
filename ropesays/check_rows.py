"""Which values are right papers on a row at a tangle's rim."""

from ropesays.checks import is_row
from ropesays.markings import few_regions, first_broken
from ropesays.rims import swing
from ropesays.rows import Barred, Filled, demand_judged, shown


def shows_row(tangle, clock, row, value):
    """Whether a value is a right paper on whether a tangle lets a row through."""
    demand_judged(tangle, clock, row)
    floor = few_regions(tangle)
    # A class below one of papers is another class: what it makes is none of these papers.
    if isinstance(value, Filled) and value.__class__.__name__ == "Filled":
        return _is_marking(floor, clock, value.marks) and shown(floor.rings[0], value.marks) == tuple(row)
    if isinstance(value, Barred) and value.__class__.__name__ == "Barred":
        return _is_marking(floor, clock, value.marks) and _disagree(clock, shown(floor.rings[0], value.marks), row)
    return False


def _is_marking(floor, clock, marks):
    """Whether a value is a marking of the regions of a Floor."""
    return is_row(marks, clock, floor.regions) and first_broken(floor, clock, marks) is None


def _disagree(clock, one, other):
    """Whether two rows of a rim do not agree; the rows of a rim without ends do."""
    return len(one) > 1 and swing(clock, one, other) != 0
