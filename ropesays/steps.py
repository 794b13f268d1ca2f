"""Steps beside the gaps of a ring, and what crossings make of its rows."""


def changed(row, gap, number):
    """A row, a tuple, with another number in a gap."""
    return row[:gap] + (number,) + row[gap + 1:]


def step_at(row, gap):
    """The number of the gap ahead of a gap, less that of the gap behind it."""
    return row[gap - 1] - row[(gap + 1) % len(row)]


def crossed(clock, row, gap, times):
    """A row behind so many overs at a gap; so many times below 0 are as many unders."""
    # The neighbours stay, so each over adds the same step, and each under takes it away.
    return changed(row, gap, (row[gap] + times * step_at(row, gap)) % clock)
