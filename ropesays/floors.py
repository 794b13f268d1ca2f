"""Floors: what becomes of the gaps of a ring by deeds, and the regions that they make up."""


class Floor:
    """The rings that some deeds leave, their crossings, and the number of regions.

    Each gap has a number, in the order in which they come about. What is known to be one with a gap of a lesser number
    has that number, or another lesser one, in `lesser`; so the least one of each region has its own.
    """

    def __init__(self, ends, deeds):
        # A ring without ends has a gap, too.
        self.ring = list(range(max(ends, 1)))
        self.lesser = list(self.ring)
        self.rings = [self.ring]
        self.crossings = []
        self.regions = 0
        for word, gap in deeds:
            self.ring = self._ring_behind(word, gap)
            self.rings.append(self.ring)
        self._close_up()

    def _ring_behind(self, word, gap):
        """The gaps of the ring behind a deed."""
        ring = self.ring
        if word == "turn":
            return ring[gap:] + ring[:gap]
        if word == "join":
            self._make_one(ring[gap - 1], ring[(gap + 1) % len(ring)])
            return ring[:gap] + ring[gap + 2:]
        if word == "open":
            # Only on a ring with ends the gap stands again behind the new rope: on one without it closes the ring.
            again = [ring[gap]] if len(ring) > 1 else []
            return ring[:gap + 1] + [self._new_gap()] + again + ring[gap + 1:]
        inner = self._new_gap()
        self.crossings.append((word, (ring[gap - 1], ring[gap], ring[(gap + 1) % len(ring)], inner)))
        return ring[:gap] + [inner] + ring[gap + 1:]

    def _new_gap(self):
        """The number of a gap that comes about now."""
        number = len(self.lesser)
        self.lesser.append(number)
        return number

    def _least(self, number):
        """The least number of what is one with a gap."""
        while self.lesser[number] != number:
            # Each way is made shorter as it is gone, so that long ones are gone once only.
            self.lesser[number] = self.lesser[self.lesser[number]]
            number = self.lesser[number]
        return number

    def _make_one(self, one, other):
        """Make one region of two gaps."""
        least, more = sorted([self._least(one), self._least(other)])
        self.lesser[more] = least

    def _close_up(self):
        """Tell regions, numbered without holes, in the place of gaps."""
        regions = []
        for number, lesser in enumerate(self.lesser):
            if lesser == number:
                regions.append(self.regions)
                self.regions += 1
            else:
                regions.append(regions[lesser])
        self.rings = [tuple([regions[gap] for gap in ring]) for ring in self.rings]
        self.crossings = [(word, *[regions[gap] for gap in gaps]) for word, gaps in self.crossings]
