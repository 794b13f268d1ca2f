"""Makings: what the lines of a desk make, to be kept by a name."""

from ropesays.closings import closed
from ropesays.moves import pulled
from ropesays.rims import beside
from ropesays.roped import black_space, fair_of, rope_of, white_space
from ropesays.spaces import Space
from ropesays.systems import System, answers
from ropesays.tangles import Tangle, turned
from ropesays.through import through
from ropesays.tied import tied


# Each of these functions takes the clock, and what stands in the line behind the new name.


def _space(clock, rows):
    return Space(clock, len(rows[0]), rows)


def _system(clock, typed):
    names, rows = typed
    return System(clock, names, rows)


def _tangle(clock, told):
    ends, deeds = told
    return Tangle(ends, deeds)


def _answers(clock, system):
    return answers(system)


def _fair(clock, space):
    return fair_of(space)


def _beside(clock, space):
    return beside(space)


def _whites(clock, space):
    return white_space(space)


def _blacks(clock, space):
    return black_space(space)


def _through(clock, tangle):
    return through(tangle, clock)


def _tie(clock, space):
    return tied(space)


def _rope(clock, system):
    return rope_of(system)


def _pull(clock, tangle):
    return pulled(tangle)


def _turned(clock, tangle, gap):
    return turned(tangle, gap)


def _closed(clock, tangle, other):
    return closed(tangle, other)


MAKINGS = {
    "space": _space,
    "system": _system,
    "tangle": _tangle,
    "answers": _answers,
    "fair": _fair,
    "beside": _beside,
    "whites": _whites,
    "blacks": _blacks,
    "through": _through,
    "tie": _tie,
    "rope": _rope,
    "pull": _pull,
    "turned": _turned,
    "closed": _closed,
}


def made(word, clock, told):
    """What the line of a word makes of what stands in it behind the new name."""
    make = MAKINGS[word]
    return make(clock, *told)


def kind_of(value):
    """The word for what is kept: a space, a system or a tangle."""
    if isinstance(value, Space):
        return "space"
    if isinstance(value, System):
        return "system"
    return "tangle"


def size_of(value):
    """How a desk tells of what it keeps now."""
    if isinstance(value, Space):
        return f"space {value.size} {value.depth}"
    if isinstance(value, System):
        return f"system {len(value.names)} {len(value.rows)}"
    return f"tangle {value.ends}"
