"""Scripts: lines that a new desk is told one behind another."""

from ropesays.desk import Desk
from ropesays.errors import BadLine, BadText, RopeError


def tell_all(clock, lines):
    """The answers of a new desk to some lines."""
    desk = Desk(clock)
    if not isinstance(lines, (list, tuple)) or not all([isinstance(line, str) for line in lines]):
        raise BadText(0, 0)
    told = []
    for at, line in enumerate(lines):
        try:
            told.append(desk.tell(line))
        except RopeError as error:
            raise BadLine(at, error) from error
    return tuple(told)
