"""Texts: lines of items, and the refusal of the first item that cannot stand."""

from ropesays.errors import BadText


def lines_in(text):
    """The lines of a text, each one the list of its items."""
    if not isinstance(text, str):
        raise BadText(0, 0)
    return [line.split(" ") for line in text.split("\n")]


def written(values):
    """A tuple of values as they are written in a text."""
    return tuple([str(value) for value in values])


def line_of(values):
    """A line of some values."""
    return " ".join([str(value) for value in values])


def demand_items(items, line, places):
    """Refuse the first item of a line that is none of those that its place wants, a missing one, one too many.

    The places are tuples of items. So an integer stands only as it is written, and one of too many digits is never
    made a number.
    """
    reading = Items(items, line)
    for place in places:
        reading.take(place)
    reading.end()


class Items:
    """The items of a line, taken one behind another, where not each place is known ahead."""

    def __init__(self, told, line):
        self.told = told
        self.line = line
        self.at = 0

    def peek(self):
        """The item that stands next; None behind the last one."""
        if self.at == len(self.told):
            return None
        return self.told[self.at]

    def refuse(self):
        """Refuse the item that stands next, or tell that it is missing."""
        raise BadText(self.line, self.at)

    def take(self, place):
        """Take the next item, if it is one of those that its place wants."""
        if self.peek() not in place:
            self.refuse()
        return self.take_any()

    def take_any(self):
        """Take the next item, whatever it is."""
        self.at += 1
        return self.told[self.at - 1]

    def end(self):
        """Refuse an item behind those that were taken."""
        if self.peek() is not None:
            self.refuse()
