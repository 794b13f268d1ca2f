"""Whether two tangles say the same, and a row that parts them if not."""

from ropesays.closings import demand_two
from ropesays.papers import Denial, Paper
from ropesays.spaces import holds
from ropesays.through import through


class Same(Paper):
    """Two tangles let through the same rows."""

    def __init__(self):
        super().__init__("same")


class Unlike(Denial):
    """Two tangles do not let through the same rows: a row that just one of them lets through."""

    def __init__(self, row):
        super().__init__("unlike", row)
        self.row = self.parts[0]


def judged_same(one, other, clock):
    """Same() if two tangles let through the same rows; otherwise the Unlike of a row that just one lets through."""
    demand_two(one, other, clock)
    left, right = through(one, clock), through(other, clock)
    # Both are of one depth, so neither holds the other one.
    unlike = [row for row in left.rows if not holds(right, row)]
    return Unlike(unlike[0]) if unlike else Same()
