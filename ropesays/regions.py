"""Regions of a tangle's floor: at the rim, on each ring, at each crossing."""

from ropesays.floors import Floor
from ropesays.tangles import demand_tangle


def regions_of(tangle):
    """How many regions there are."""
    demand_tangle(tangle, "tangle")
    return Floor(tangle.ends, tangle.deeds).regions


def rim_of(tangle):
    """The region of each gap of the rim."""
    return rings_of(tangle)[0]


def rings_of(tangle):
    """The regions of the gaps of the rim, and then of the ring behind each deed."""
    demand_tangle(tangle, "tangle")
    return tuple(Floor(tangle.ends, tangle.deeds).rings)


def crossings_of(tangle):
    """For each crossing its word, and the regions left, out, right, inner."""
    demand_tangle(tangle, "tangle")
    return tuple(Floor(tangle.ends, tangle.deeds).crossings)
