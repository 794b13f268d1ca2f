"""Systems: equations between sums of multiples of unknowns, and the rows of values by which all of them hold."""

from ropesays.checks import CLOCKS, is_row
from ropesays.demands import demand_clock
from ropesays.equations import MOST_EQUATIONS, are_names, equation_line, take_equation, take_names, take_row
from ropesays.errors import BadSystem, BadText
from ropesays.spaces import Space, upright
from ropesays.texts import Items, demand_items, line_of, lines_in, written


class System:
    """Equations: for each a row, with a number for each of some names."""

    def __init__(self, clock, names, rows):
        demand_clock(clock)
        demand_names(names)
        if not _are_rows(rows, clock, len(names)):
            raise BadSystem("rows")
        self.clock = clock
        self.names = tuple(names)
        self.rows = tuple([tuple(row) for row in rows])

    def __eq__(self, other):
        if not isinstance(other, System):
            return False
        return self.clock == other.clock and self.names == other.names and self.rows == other.rows

    def __str__(self):
        lines = [equation_line(self.names, row) for row in self.rows]
        return "\n".join([f"clock {self.clock}", line_of(("names", *self.names)), *lines])

    @staticmethod
    def read(text):
        """The System whose text this is."""
        return _read_system(text, take_row)


def demand_names(names):
    """Refuse what is no list of unlike names."""
    if not are_names(names):
        raise BadSystem("names")


def demand_system(value, part):
    """Refuse what is no System."""
    if not isinstance(value, System):
        raise BadSystem(part)


def _are_rows(rows, clock, size):
    """Whether a value is a list of rows of a clock and a size, not too many of them."""
    if not isinstance(rows, (list, tuple)) or len(rows) > MOST_EQUATIONS:
        return False
    return all([is_row(row, clock, size) for row in rows])


def _read_system(text, take):
    """The System that a text tells; a function takes the row of each line."""
    lines = lines_in(text)
    demand_items(lines[0], 0, (("clock",), written(CLOCKS)))
    clock = int(lines[0][1])
    if len(lines) == 1:
        raise BadText(1, 0)
    items = Items(lines[1], 1)
    items.take(("names",))
    names = take_names(items)
    items.end()
    rows = []
    for line in range(2, len(lines)):
        if len(rows) == MOST_EQUATIONS:
            raise BadText(line, 0)
        items = Items(lines[line], line)
        rows.append(take(items, clock, names))
        items.end()
    return System(clock, names, rows)


def system_of(text):
    """The System that a text of equations tells, as somebody types them."""
    return _read_system(text, take_equation)


def answers(system):
    """The space of the rows of values by which all equations of a system hold."""
    demand_system(system, "system")
    return upright(Space(system.clock, len(system.names), system.rows))
