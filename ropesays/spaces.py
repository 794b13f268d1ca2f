"""Spaces: all sums of multiples of some rows."""

from ropesays.checks import CLOCKS, is_row
from ropesays.clocks import MOST_NUMBERS
from ropesays.demands import demand_clock, demand_within
from ropesays.errors import BadRow, BadSpace, BadText, Misfit, TooMany
from ropesays.forms import lead_of, least_form
from ropesays.texts import demand_items, line_of, lines_in, written

MOST_GIVEN = 400
MOST_TOLD = 2500


class Space:
    """The space that is given by some rows of one clock and one size."""

    def __init__(self, clock, size, rows):
        demand_clock(clock)
        demand_within(size, 1, MOST_NUMBERS, "size")
        if not _are_rows(rows, clock, size):
            raise BadRow("rows")
        self.clock = clock
        self.size = size
        self.rows = least_form(clock, size, rows)
        self.depth = len(self.rows)

    def __eq__(self, other):
        if not isinstance(other, Space):
            return False
        return self.clock == other.clock and self.size == other.size and self.rows == other.rows

    def __str__(self):
        return "\n".join([f"clock {self.clock} size {self.size}"] + [line_of(row) for row in self.rows])

    @staticmethod
    def read(text):
        """The Space whose text this is."""
        return _read_space(lines_in(text))


def _are_rows(rows, clock, size):
    """Whether a value is a list of rows of a clock and a size, not too many of them."""
    if not isinstance(rows, (list, tuple)) or len(rows) > MOST_GIVEN:
        return False
    return all([is_row(row, clock, size) for row in rows])


def _read_space(lines):
    """The Space whose text has these lines."""
    head = lines[0]
    sizes = written(list(range(1, MOST_NUMBERS + 1)))
    demand_items(head, 0, (("clock",), written(CLOCKS), ("size",), sizes))
    rows = _read_rows(lines, int(head[1]), int(head[3]))
    space = Space(int(head[1]), int(head[3]), rows)
    if list(space.rows) != rows:
        raise BadText(len(lines) - 1, len(lines[-1]) - 1)
    return space


def _read_rows(lines, clock, size):
    """The rows that stand behind line 0."""
    places = [written(list(range(clock)))] * size
    rows = []
    for line in range(1, len(lines)):
        if line > size:
            raise BadText(line, 0)
        demand_items(lines[line], line, places)
        rows.append(tuple([int(item) for item in lines[line]]))
    return rows


def demand_space(value, part):
    """Refuse what is no Space."""
    if not isinstance(value, Space):
        raise BadSpace(part)


def _demand_alike(one, other):
    """Refuse what are no two Spaces of one clock and one size."""
    demand_space(one, "one")
    demand_space(other, "other")
    if one.clock != other.clock or one.size != other.size:
        raise Misfit("other")


def rest_of(space, row):
    """A row less a row of the space, so that it has 0 where the space's rows lead."""
    left = list(row)
    for each in space.rows:
        # No other one of these rows has a number but 0 here, so the row tells how often each is taken off.
        times = row[lead_of(each)]
        if times != 0:
            left = [(number - times * taken) % space.clock for number, taken in zip(left, each)]
    return tuple(left)


def holds(space, row):
    """Whether a row is one of a space."""
    demand_space(space, "space")
    if not is_row(row, space.clock, space.size):
        raise BadRow("row")
    return not any(rest_of(space, row))


def joined_space(one, other):
    """The space of all sums of a row of the one and a row of the other."""
    _demand_alike(one, other)
    # Both together may have more rows than a Space is given by.
    return Space(one.clock, one.size, least_form(one.clock, one.size, one.rows + other.rows))


def meeting(one, other):
    """The space of the rows that two spaces have in common."""
    _demand_alike(one, other)
    # A row is in both exactly if it is upright on all that is upright on one of them.
    return upright(joined_space(upright(one), upright(other)))


def upright(space):
    """The space of all rows that are upright on all rows of a space."""
    demand_space(space, "space")
    leads = [lead_of(row) for row in space.rows]
    rows = [_upright_by(space, leads, at) for at in range(space.size) if at not in leads]
    return Space(space.clock, space.size, rows)


def _upright_by(space, leads, at):
    """The row that is upright on a space and has 1 at one place where no row leads, and 0 at all other such places."""
    row = [0] * space.size
    row[at] = 1
    for lead, each in zip(leads, space.rows):
        row[lead] = (space.clock - each[at]) % space.clock
    return row


def demand_few_rows(clock, depth):
    """Refuse a clock and a depth by which a space has too many rows."""
    many = 1
    for _ in range(depth):
        many = many * clock
    if many > MOST_TOLD:
        raise TooMany("rows", MOST_TOLD)


def rows_in(space):
    """All rows of a space, ascending."""
    demand_space(space, "space")
    demand_few_rows(space.clock, space.depth)
    # The last row of the least form is the first one to be added: so the rows come ascending.
    told = [(0,) * space.size]
    for row in reversed(space.rows):
        told = _spread(space.clock, row, told)
    return tuple(told)


def _spread(clock, row, told):
    """All rows that come of some rows by adding a row, 0 times to each of them, then once, and so on."""
    spread = []
    for times in range(clock):
        added = [times * number % clock for number in row]
        spread.extend([tuple([(one + more) % clock for one, more in zip(each, added)]) for each in told])
    return spread
