"""Rows led back: what deeds let in at a ring from the rows of the ring behind them."""

from ropesays.clocks import inverse
from ropesays.forms import least_form
from ropesays.steps import crossed


def led_back(clock, ends, rows, deeds, more):
    """Rows that give the space of what some deeds let in from the space of some rows behind them.

    The rows behind are tuples; the ring behind has so many ends. So many more numbers stand in each row behind those of
    the ring, and stay there.
    """
    many = ends
    for word, gap in reversed(deeds):
        if word == "join":
            rows = _ahead_of_join(many, rows, gap, more)
            many += 2
        elif word == "open":
            many -= 2
            rows = _ahead_of_open(clock, many, rows, gap, more)
        elif word == "turn":
            rows = [row[many - gap:many] + row[:many - gap] + row[many:] for row in rows]
        else:
            times = -1 if word == "over" else 1
            rows = [crossed(clock, row[:many], gap, times) + row[many:] for row in rows]
    return rows


def _ahead_of_join(many, rows, gap, more):
    """The rows ahead of a join at a gap, behind which so many ends are left."""
    wider = []
    for row in rows:
        # Ahead of the last join gap 0 is on both sides of gap 1, so it is not told again.
        again = row[gap - 1:gap] if many > 0 else ()
        wider.append(row[:gap] + (0,) + again + row[gap:])
    # In the gap that is shut any number stands.
    wider.append((0,) * gap + (1,) + (0,) * (many + 1 - gap + more))
    return wider


def _ahead_of_open(clock, many, rows, gap, more):
    """The rows ahead of an open at a gap of a ring of so many ends."""
    if many == 0:
        narrow = [row[:1] + row[2:] for row in rows]
    else:
        narrow = [row[:gap + 1] + row[gap + 3:] for row in _alike(clock, rows, gap, gap + 2)]
    # What was unlike in the gap of the new rope alone is alike now.
    return least_form(clock, max(many, 1) + more, narrow)


def _alike(clock, rows, one, other):
    """Rows that give the space of those sums of multiples of some rows that have one number at two places."""
    alike = [row for row in rows if row[one] == row[other]]
    unlike = [row for row in rows if row[one] != row[other]]
    if not unlike:
        return alike
    # Of each row so often the last unlike one is taken off as makes both numbers alike.
    last = unlike.pop()
    by = inverse(clock, (last[one] - last[other]) % clock)
    for row in unlike:
        times = (row[one] - row[other]) * by
        alike.append(tuple([(number - times * taken) % clock for number, taken in zip(row, last)]))
    return alike
