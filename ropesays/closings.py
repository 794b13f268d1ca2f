"""Closings: a tangle within, the image of another one without, and how deep their markings are."""

from ropesays.checks import CLOCKS
from ropesays.deeds import MOST_DEEDS, ends_behind
from ropesays.demands import demand_clock
from ropesays.errors import Misfit, TooMany
from ropesays.markings import few_regions, rules_of
from ropesays.spaces import meeting
from ropesays.tangles import Tangle, demand_tangle
from ropesays.through import free_depth, through


def lead_in(tangle):
    """The deeds by which the image of a tangle leads in, from a ring without ends to the rim."""
    demand_tangle(tangle, "tangle")
    deeds = []
    many = tangle.ends
    for word, gap in tangle.deeds:
        deeds.append(_taken_back(word, gap, many))
        many = ends_behind(word, many)
    return tuple(deeds[::-1])


def _taken_back(word, gap, many):
    """The deed in the place of a deed on a ring of so many ends."""
    if word == "over":
        return ("under", gap)
    if word == "under":
        return ("over", gap)
    if word == "join":
        return ("open", gap - 1)
    if word == "open":
        return ("join", gap + 1)
    return ("turn", (many - gap) % many)


def _demand_tangles(one, other):
    """Refuse what are no two tangles."""
    demand_tangle(one, "one")
    demand_tangle(other, "other")


def _demand_one_rim(one, other):
    """Refuse a tangle of other ends than those of the one."""
    if one.ends != other.ends:
        raise Misfit("other")


def demand_two(one, other, clock):
    """Refuse what are no two tangles of as many ends, and no clock."""
    _demand_tangles(one, other)
    demand_clock(clock)
    _demand_one_rim(one, other)


def closed(one, other):
    """The tangle without ends that comes if one lies within, and the image of the other one without."""
    _demand_tangles(one, other)
    _demand_one_rim(one, other)
    if len(one.deeds) + len(other.deeds) > MOST_DEEDS:
        raise TooMany("deeds", MOST_DEEDS)
    return Tangle(0, lead_in(other) + one.deeds)


def closed_depth(one, other, clock):
    """The depth of the markings of two tangles that are closed, even if these are too many deeds for a tangle."""
    demand_two(one, other, clock)
    # A marking is one of each of both tangles that show the same row.
    free = free_depth(one, clock) + free_depth(other, clock)
    return meeting(through(one, clock), through(other, clock)).depth + free


def depths_of(tangle):
    """The depths of the markings of a tangle on all clocks."""
    demand_tangle(tangle, "tangle")
    floor = few_regions(tangle)
    return tuple([floor.regions - rules_of(floor, clock).depth for clock in CLOCKS])
