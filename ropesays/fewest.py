"""Of how few pairs a game for a row can be."""

from ropesays.games import strange_gap
from ropesays.rims import is_chess
from ropesays.spaces import demand_few_rows
from ropesays.steps import changed, step_at


def fewest_sets(clock, row):
    """Of how few pairs a game for a row can be; None for a chess row."""
    chess = is_chess(clock, row)
    demand_few_rows(clock, len(row))
    if chess:
        return None
    many = 0
    last = [tuple(row)]
    seen = {tuple(row): True}
    # All rows to which fewer sets lead were seen; so the first one that is nearly chess tells the least number.
    while not any([strange_gap(each) is not None for each in last]):
        many += 1
        found = []
        for each in last:
            for other in _rows_behind(clock, each):
                if other not in seen:
                    seen[other] = True
                    found.append(other)
        last = found
    return many


def _rows_behind(clock, row):
    """All rows that come of one set in a row, a tuple."""
    gaps = [gap for gap in range(len(row)) if step_at(row, gap) != 0]
    return [changed(row, gap, number) for gap in gaps for number in range(clock)]
