"""Markings: numbers for all regions, by which the rules of all crossings are kept."""

from ropesays.clocks import MOST_NUMBERS
from ropesays.demands import demand_clock, demand_row
from ropesays.errors import TooMany
from ropesays.floors import Floor
from ropesays.spaces import Space, upright
from ropesays.tangles import demand_tangle

# How often the numbers left, out, right and inner are added, to come to 0 by the rule of a crossing.
RULES = {"over": (1, 1, -1, -1), "under": (-1, 1, 1, -1)}


def few_regions(tangle):
    """The Floor of a tangle; a tangle of too many regions is refused."""
    floor = Floor(tangle.ends, tangle.deeds)
    if floor.regions > MOST_NUMBERS:
        raise TooMany("regions", MOST_NUMBERS)
    return floor


def first_broken(floor, clock, marks):
    """The index of the first crossing of a Floor whose rule a row of marks does not keep; None if there is none."""
    for at, (word, *regions) in enumerate(floor.crossings):
        if sum([times * marks[region] for times, region in zip(RULES[word], regions)]) % clock != 0:
            return at
    return None


def broken_at(tangle, clock, marks):
    """The index of the first crossing whose rule the marks do not keep; None for a marking."""
    demand_tangle(tangle, "tangle")
    demand_clock(clock)
    floor = Floor(tangle.ends, tangle.deeds)
    demand_row(marks, clock, floor.regions, floor.regions, "marks")
    return first_broken(floor, clock, marks)


def rules_of(floor, clock):
    """The space of all rows that are upright on all markings, of as many numbers as a Floor has regions."""
    rows = []
    for word, *regions in floor.crossings:
        row = [0] * floor.regions
        for times, region in zip(RULES[word], regions):
            # Some of the four regions may be one.
            row[region] = (row[region] + times) % clock
        rows.append(row)
    return Space(clock, floor.regions, rows)


def markings(tangle, clock):
    """The space of all markings."""
    demand_tangle(tangle, "tangle")
    demand_clock(clock)
    return upright(rules_of(few_regions(tangle), clock))
