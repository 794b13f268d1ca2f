"""Texts: lines of items, and the refusal of the first item that cannot stand."""

from ropesays.errors import BadText


def lines_in(text):
    """The lines of a text, each one the list of its items."""
    if not isinstance(text, str):
        raise BadText(0, 0)
    return [line.split(" ") for line in text.split("\n")]


def written(values):
    """A tuple of values as they are written in a text."""
    return tuple([str(value) for value in values])


def line_of(values):
    """A line of some values."""
    return " ".join([str(value) for value in values])


def demand_items(items, line, places):
    """Refuse the first item of a line that is none of those that its place wants, a missing one, one too many.

    The places are tuples of items. So an integer stands only as it is written, and one of too many digits is never
    made a number.
    """
    for at, (item, place) in enumerate(zip(items, places)):
        if item not in place:
            raise BadText(line, at)
    if len(items) != len(places):
        raise BadText(line, min(len(items), len(places)))
