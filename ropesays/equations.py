"""Equations: the names of their unknowns, and their rows as they are written and read."""

from ropesays.texts import written

LETTERS = "abcdefghijklmnopqrstuvwxyz"
MOST_LETTERS = 8
MOST_NAMES = 7
MOST_EQUATIONS = 20

DIGITS = "0123456789"
# The integers of terms are those from 0 to 999.
MOST_DIGITS = 3

# What may stand behind an equation: nothing more in its line, or a stroke ahead of another one.
BEHIND = (None, "/")


def _is_name(value):
    """Whether a value is a name of an unknown."""
    if not isinstance(value, str) or not 1 <= len(value) <= MOST_LETTERS:
        return False
    return all([letter in LETTERS for letter in value])


def are_names(value):
    """Whether a value is a list of unlike names, neither none nor too many."""
    if not isinstance(value, (list, tuple)) or not 1 <= len(value) <= MOST_NAMES:
        return False
    # Other values are not compared with names, whatever they claim to be equal to.
    return all([_is_name(name) for name in value]) and len(set(value)) == len(value)


def take_names(items):
    """The unlike names that stand next among the Items of a line: one at least, and not too many."""
    names = []
    while are_names([*names, items.peek()]):
        names.append(items.take_any())
    if not names:
        items.refuse()
    return names


def equation_line(names, row):
    """The line of a row."""
    terms = [_term(number, name) for number, name in zip(row, names) if number != 0]
    side = " + ".join(terms) if terms else "0"
    return f"{side} = 0"


def _term(number, name):
    """A number of times a name."""
    return name if number == 1 else f"{number} {name}"


def take_row(items, clock, names):
    """The row whose line stands next among the Items of a line."""
    row = [0] * len(names)
    if items.peek() == "0":
        items.take_any()
    else:
        _take_terms(items, clock, names, row)
    items.take(("=",))
    items.take(("0",))
    return row


def _take_terms(items, clock, names, row):
    """Put the numbers of the terms that stand next into a row of 0s."""
    numbers = written(list(range(2, clock)))
    at = _take_term(items, numbers, names, 0, row)
    # Each name stands behind those so far; so no other term comes behind the last one.
    while at + 1 < len(names) and items.peek() == "+":
        items.take_any()
        at = _take_term(items, numbers, names, at + 1, row)


def _take_term(items, numbers, names, first, row):
    """Put the number of the next term, of one of the names from the first one on, into a row; the index of the name."""
    number = 1
    if items.peek() in numbers:
        number = int(items.take_any())
    at = names.index(items.take(names[first:]))
    row[at] = number
    return at


def take_equation(items, clock, names):
    """The row of the equation that stands next among the Items of a line: two sides, as somebody types them."""
    left = _take_side(items, names, ("=",))
    items.take(("=",))
    right = _take_side(items, names, BEHIND)
    return [(left[name] - right[name]) % clock for name in names]


def _take_side(items, names, behind):
    """How often each name is added on a side, behind which one of some items stands, or None for no item."""
    times = {name: 0 for name in names}
    if items.peek() == "0":
        items.take_any()
        if items.peek() in behind:
            return times
        # It belongs to a term, which adds nothing.
        items.take(times)
    else:
        sign = items.take_any() if items.peek() == "-" else "+"
        _add_term(items, sign, times)
    while items.peek() not in behind:
        _add_term(items, items.take(("+", "-")), times)
    return times


def _is_times(item):
    """Whether an item is an integer that may stand in a term, as it is written; None is no item."""
    if item is None or not 1 <= len(item) <= MOST_DIGITS:
        return False
    return all([digit in DIGITS for digit in item]) and (item == "0" or item[0] != "0")


def _add_term(items, sign, times):
    """Add the next term, behind a sign, to the times of its name."""
    number = 1
    if _is_times(items.peek()):
        number = int(items.take_any())
    name = items.take(times)
    times[name] += number if sign == "+" else -number
