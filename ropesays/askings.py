"""Askings: the answers to the lines of a desk that are not kept."""

from ropesays.equations import equation_line
from ropesays.fairs import fair_count, is_fair
from ropesays.fewest import fewest_sets
from ropesays.pictures import picture
from ropesays.rings import judged_ring
from ropesays.roped import equations_of
from ropesays.ropes import loops_of, ropes_of
from ropesays.same import judged_same
from ropesays.spaces import holds
from ropesays.texts import line_of
from ropesays.through import free_depth, through


def in_one_line(lines):
    """Some lines with strokes between, and a dash for none."""
    return " / ".join(lines) if lines else "-"


def _yes_or_no(told):
    """The answer that tells whether something is so."""
    return "yes" if told else "no"


# Each of these functions takes the clock, and what stands in the line behind its word.


def _holds(clock, space, row):
    return _yes_or_no(holds(space, row))


def _isfair(clock, space):
    return _yes_or_no(is_fair(space))


def _row(clock, tangle, row):
    # What is let through is told in a short time even where the markings are too many.
    return "through" if holds(through(tangle, clock), row) else "barred"


def _same(clock, tangle, other):
    return _yes_or_no(judged_same(tangle, other, clock))


def _free(clock, tangle):
    return str(free_depth(tangle, clock))


def _loops(clock, tangle):
    return str(loops_of(tangle))


def _ropes(clock, tangle):
    return in_one_line([line_of(pair) for pair in ropes_of(tangle)])


def _said(clock, tangle, names):
    return in_one_line([equation_line(names, row) for row in equations_of(tangle, clock, names).rows])


def _led(clock, row):
    return _yes_or_no(judged_ring(clock, row))


def _fewest(clock, row):
    sets = fewest_sets(clock, row)
    return "none" if sets is None else str(sets)


def _count(clock, ends):
    return str(fair_count(clock, ends))


def _picture(clock, tangle):
    return in_one_line(picture(tangle))


def _text(clock, value):
    return in_one_line(str(value).split("\n"))


ASKINGS = {
    "holds": _holds,
    "isfair": _isfair,
    "row": _row,
    "same": _same,
    "free": _free,
    "loops": _loops,
    "ropes": _ropes,
    "said": _said,
    "led": _led,
    "fewest": _fewest,
    "count": _count,
    "picture": _picture,
    "text": _text,
}


def asked(word, clock, told):
    """The answer to the line of a word, by what stands in it."""
    ask = ASKINGS[word]
    return ask(clock, *told)
