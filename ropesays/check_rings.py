"""Which values are right papers on a row of a ring."""

from ropesays.checks import is_within
from ropesays.games import strange_gap
from ropesays.rims import is_chess
from ropesays.rings import Chess, Led
from ropesays.steps import changed, step_at

MOST_PAIRS = 1000


def shows_ring(clock, row, value):
    """Whether a value is a right paper on whether a row can be led to one that is nearly chess."""
    chess = is_chess(clock, row)
    # A class below one of papers is another class: what it makes is none of these papers.
    if isinstance(value, Led) and value.__class__.__name__ == "Led":
        return _is_game(clock, tuple(row), value.sets)
    if isinstance(value, Chess) and value.__class__.__name__ == "Chess":
        return chess
    return False


def _is_game(clock, row, sets):
    """Whether a value is a game for a row, a tuple, of not too many pairs."""
    if not isinstance(sets, tuple) or len(sets) > MOST_PAIRS:
        return False
    for pair in sets:
        if not _may_be_set(clock, row, pair):
            return False
        row = changed(row, pair[0], pair[1])
    return strange_gap(row) is not None


def _may_be_set(clock, row, pair):
    """Whether a value is a pair of a gap and a number to which it may be set in a row."""
    if not isinstance(pair, tuple) or len(pair) != 2:
        return False
    if not is_within(pair[0], 0, len(row) - 1) or not is_within(pair[1], 0, clock - 1):
        return False
    return step_at(row, pair[0]) != 0
