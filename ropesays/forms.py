"""Least forms: the one choice of rows by which a space can be given."""

from ropesays.clocks import inverse

# A row is packed into one integer, with so many bits for each of its numbers: then a multiple of it is added to
# another row by one product and one sum. Each time less than 31 * 31 is added to a number, and it happens once for
# each row that leads; so no number outgrows its bits.
BITS = 24
ALL_BITS = 2 ** 24 - 1


def lead_of(row):
    """The place of the first number of a row that is not 0; the row's size if there is none."""
    for at, number in enumerate(row):
        if number != 0:
            return at
    return len(row)


def _packed(row):
    """A row in one integer, the first number in the lowest bits."""
    whole = 0
    for number in reversed(row):
        whole = (whole << BITS) + number
    return whole


def _number_at(clock, whole, at):
    """The number at a place of a packed row, round the clock."""
    return ((whole >> (BITS * at)) & ALL_BITS) % clock


def _unpacked(clock, size, whole):
    """The row of a size that is packed in an integer."""
    return tuple([_number_at(clock, whole, at) for at in range(size)])


def _cleared(clock, whole, leading):
    """A packed row, with multiples of leading rows added so that it has 0, round the clock, where they lead."""
    # Each of them was cleared by those ahead of it before it came in; so what is 0 by one of them stays 0.
    for lead, row in leading.items():
        number = _number_at(clock, whole, lead)
        if number != 0:
            whole = whole + (clock - number) * row
    return whole


def _leading_rows(clock, size, rows):
    """Packed rows by which the space of some rows is given, each with 1 at its lead, by their leads."""
    leading = {}
    for row in rows:
        left = _unpacked(clock, size, _cleared(clock, _packed(row), leading))
        lead = lead_of(left)
        if lead < size:
            times = inverse(clock, left[lead])
            leading[lead] = _packed([times * number % clock for number in left])
    return leading


def least_form(clock, size, rows):
    """The rows of the least form of the space that is given by some rows."""
    leading = _leading_rows(clock, size, rows)
    cleared = {}
    form = []
    for lead in sorted(leading, reverse=True):
        row = _unpacked(clock, size, _cleared(clock, leading[lead], cleared))
        cleared[lead] = _packed(row)
        form.append(row)
    return tuple(form[::-1])
