"""Whether a row is let through, and a marking that shows it, or that shows what does not agree with it."""

from ropesays.clocks import row_sum, row_times
from ropesays.demands import demand_clock, demand_row
from ropesays.forms import lead_of
from ropesays.markings import markings
from ropesays.papers import Denial, Paper
from ropesays.regions import rim_of
from ropesays.rims import swing
from ropesays.tangles import demand_tangle


class Filled(Paper):
    """A row is let through: the marks of a marking that shows it."""

    def __init__(self, marks):
        super().__init__("filled", marks)
        self.marks = self.parts[0]


class Barred(Denial):
    """A row is not let through: the marks of a marking that shows a row which does not agree with it."""

    def __init__(self, marks):
        super().__init__("barred", marks)
        self.marks = self.parts[0]


def demand_judged(tangle, clock, row):
    """Refuse what is no tangle, no clock, no row of a number for each gap of the rim."""
    demand_tangle(tangle, "tangle")
    demand_clock(clock)
    # A rim without ends has a gap, too.
    gaps = max(tangle.ends, 1)
    demand_row(row, clock, gaps, gaps, "row")


def shown(rim, marks):
    """The row that marks show in the regions of a rim's gaps."""
    return tuple([marks[region] for region in rim])


def judged_row(tangle, clock, row):
    """The Filled of a marking that shows a row; or the Barred of one that shows a row which does not agree with it."""
    demand_judged(tangle, clock, row)
    space = markings(tangle, clock)
    rim = rim_of(tangle)
    marks = _marks_for(space, rim, row)
    if shown(rim, marks) == tuple(row):
        return Filled(marks)
    # What is let through is fair: so one of the rows by which it is given does not agree.
    unlike = [each for each in space.rows if swing(clock, shown(rim, each), row) != 0]
    return Barred(unlike[0])


def _marks_for(space, rim, row):
    """The marking that shows a row at the rim, if there is one; otherwise any marking."""
    marks = (0,) * space.size
    for each in space.rows:
        # The regions of the rim come first in all marks: where a row leads in none of them it shows 0s alone.
        lead = lead_of(each)
        if lead in rim:
            marks = row_sum(space.clock, marks, row_times(space.clock, row[rim.index(lead)], each))
    return marks
