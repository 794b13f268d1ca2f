"""Lines that a desk is told: what stands in them, item by item."""

from ropesays.deeds import MOST_ENDS, WORDS
from ropesays.equations import LETTERS, MOST_EQUATIONS, take_equation, take_names
from ropesays.errors import BadText
from ropesays.rims import MOST_GAPS
from ropesays.tangles import MOST_AT_RIM
from ropesays.texts import Items, written

MOST_SIGNS = 12
SIGNS = "abcdefghijklmnopqrstuvwxyz0123456789"
MOST_ROWS = 20

# What stands behind the word of each line, each of it taken by a function of TAKING: a new name, the name of anything
# that is kept, of a space, a system, a tangle that is kept, and so on.
FORMS = {
    "space": ("new", "rows"),
    "system": ("new", "equations"),
    "tangle": ("new", "deeds"),
    "answers": ("new", "system"),
    "fair": ("new", "space"),
    "beside": ("new", "space"),
    "whites": ("new", "space"),
    "blacks": ("new", "space"),
    "through": ("new", "tangle"),
    "tie": ("new", "space"),
    "rope": ("new", "system"),
    "pull": ("new", "tangle"),
    "turned": ("new", "tangle", "gap"),
    "closed": ("new", "tangle", "tangle"),
    "drop": ("kept",),
    "undo": (),
    "again": (),
    "log": (),
    "names": (),
    "holds": ("space", "row"),
    "isfair": ("space",),
    "row": ("tangle", "row"),
    "same": ("tangle", "tangle"),
    "free": ("tangle",),
    "loops": ("tangle",),
    "ropes": ("tangle",),
    "said": ("tangle", "names"),
    "led": ("row",),
    "fewest": ("row",),
    "count": ("ends",),
    "picture": ("tangle",),
    "text": ("kept",),
}


def _take_name(items, clock):
    """The name that stands next."""
    name = items.peek()
    if name is None or not 1 <= len(name) <= MOST_SIGNS:
        items.refuse()
    if name[0] not in LETTERS or not all([sign in SIGNS for sign in name]):
        items.refuse()
    return items.take_any()


def _take_numbers(items, clock, least, most):
    """The numbers that stand next, neither fewer nor more than told."""
    numbers = written(list(range(clock)))
    row = []
    while len(row) < least or (len(row) < most and items.peek() in numbers):
        row.append(int(items.take(numbers)))
    return row


def _take_row(items, clock):
    """The row that stands next."""
    return _take_numbers(items, clock, 1, MOST_GAPS)


def _take_rows(items, clock):
    """The rows of one size that stand next."""
    rows = [_take_row(items, clock)]
    size = len(rows[0])
    while items.peek() is not None and len(rows) < MOST_ROWS:
        items.take(("/",))
        rows.append(_take_numbers(items, clock, size, size))
    return rows


def _take_unknowns(items, clock):
    """The names of unknowns that stand next."""
    return take_names(items)


def _take_equations(items, clock):
    """The names of unknowns that stand next, and the rows of their equations."""
    names = take_names(items)
    rows = []
    while items.peek() is not None and len(rows) < MOST_EQUATIONS:
        items.take(("/",))
        rows.append(take_equation(items, clock, names))
    return names, rows


def _take_ends(items, clock):
    """The number of a rim's ends that stands next."""
    return int(items.take(written(list(range(0, MOST_AT_RIM + 1, 2)))))


def _take_gap(items, clock):
    """The gap of a rim that stands next."""
    return int(items.take(written(list(range(MOST_GAPS)))))


def _take_deeds(items, clock):
    """The number of a rim's ends, and the deeds, that stand next, whether they fit or not."""
    ends = _take_ends(items, clock)
    gaps = written(list(range(MOST_ENDS)))
    deeds = []
    while items.peek() is not None:
        items.take(("/",))
        word = items.take(WORDS)
        deeds.append((word, int(items.take(gaps))))
    return ends, deeds


TAKING = {
    "new": _take_name,
    "kept": _take_name,
    "space": _take_name,
    "system": _take_name,
    "tangle": _take_name,
    "row": _take_row,
    "rows": _take_rows,
    "names": _take_unknowns,
    "equations": _take_equations,
    "ends": _take_ends,
    "gap": _take_gap,
    "deeds": _take_deeds,
}


def is_to_be_kept(word):
    """Whether the lines of a word are kept, if they raise nothing."""
    return word == "drop" or "new" in FORMS[word]


def line_told(clock, line):
    """The word of a line, and what stands behind it, as its form tells."""
    if not isinstance(line, str):
        raise BadText(0, 0)
    items = Items(line.split(" "), 0)
    word = items.take(list(FORMS))
    told = []
    for kind in FORMS[word]:
        take = TAKING[kind]
        told.append(take(items, clock))
    items.end()
    return word, told
