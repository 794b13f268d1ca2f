"""Ropes of a tangle: which ends of the rim one rope joins, and how many ropes are closed."""

from ropesays.tangles import demand_tangle


class Ropes:
    """Ropes as some deeds lay them.

    Each end of a rope, at the rim or on the ring, has a number, the ends of the rim first; `others` tells by it the
    number of the rope's other end.
    """

    def __init__(self, ends, deeds):
        # From each end of the rim a rope leads to the ring at once.
        self.ring = list(range(ends, 2 * ends))
        self.others = self.ring + list(range(ends))
        self.loops = 0
        for word, gap in deeds:
            self._do(word, gap)

    def _do(self, word, gap):
        """Do one more deed."""
        ring = self.ring
        if word == "turn":
            self.ring = ring[gap:] + ring[:gap]
        elif word == "open":
            self._add_new(gap)
        elif word == "join":
            self._tie(ring[gap - 1], ring[gap])
            self.ring = ring[:gap - 1] + ring[gap + 1:]
        else:
            ring[gap - 1], ring[gap] = ring[gap], ring[gap - 1]

    def _add_new(self, gap):
        """Lay a rope of which both ends are on the ring."""
        one = len(self.others)
        self.others.extend([one + 1, one])
        self.ring = self.ring[:gap] + [one, one + 1] + self.ring[gap:]

    def _tie(self, one, other):
        """Join two ends that are on the ring."""
        if self.others[one] == other:
            self.loops += 1
        else:
            first, last = self.others[one], self.others[other]
            self.others[first] = last
            self.others[last] = first


def ropes_of(tangle):
    """The pairs of ends of the rim that one rope joins, the lesser one first, ascending."""
    demand_tangle(tangle, "tangle")
    others = Ropes(tangle.ends, tangle.deeds).others[:tangle.ends]
    return tuple([(end, other) for end, other in enumerate(others) if end < other])


def loops_of(tangle):
    """How many closed ropes there are."""
    demand_tangle(tangle, "tangle")
    return Ropes(tangle.ends, tangle.deeds).loops
