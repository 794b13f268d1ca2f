"""What a tangle lets through at its rim, and how deep the markings are that show nothing there."""

from ropesays.backward import led_back
from ropesays.demands import demand_clock
from ropesays.markings import few_regions, rules_of
from ropesays.spaces import Space
from ropesays.tangles import demand_tangle


def through(tangle, clock):
    """The space of the rows that a tangle lets through."""
    demand_tangle(tangle, "tangle")
    demand_clock(clock)
    # On the ring at last, without ends, each row is let through.
    rows = led_back(clock, 0, [(1,)], tangle.deeds, 0)
    return Space(clock, max(tangle.ends, 1), rows)


def free_depth(tangle, clock):
    """The depth of the space of those markings that show 0s alone."""
    demand_tangle(tangle, "tangle")
    demand_clock(clock)
    rules = rules_of(few_regions(tangle), clock)
    return rules.size - rules.depth - through(tangle, clock).depth
