"""Which values are right papers on two tangles."""

from ropesays.checks import is_row
from ropesays.closings import demand_two
from ropesays.same import Same, Unlike
from ropesays.spaces import holds
from ropesays.through import through


def shows_same(one, other, clock, value):
    """Whether a value is a right paper on whether two tangles let through the same rows."""
    demand_two(one, other, clock)
    left, right = through(one, clock), through(other, clock)
    # A class below one of papers is another class: what it makes is none of these papers.
    if isinstance(value, Same) and value.__class__.__name__ == "Same":
        return left == right
    if isinstance(value, Unlike) and value.__class__.__name__ == "Unlike":
        return is_row(value.row, clock, left.size) and holds(left, value.row) != holds(right, value.row)
    return False
