"""Tangles: a rim of so many ends, and the deeds that lead from it to a ring without ends."""

from ropesays.checks import is_within
from ropesays.deeds import MOST_DEEDS, are_deeds, deed_lines, demand_fitting, read_deeds
from ropesays.demands import demand_within
from ropesays.errors import BadTangle, TooMany
from ropesays.texts import demand_items, lines_in, written

MOST_AT_RIM = 16


class Tangle:
    """Ropes in a round box: the ends at the rim, and what is done from there inward."""

    def __init__(self, ends, deeds):
        if not is_within(ends, 0, MOST_AT_RIM) or ends % 2 != 0:
            raise BadTangle("ends")
        if not are_deeds(deeds):
            raise BadTangle("deeds")
        demand_fitting(deeds, ends, 0)
        self.ends = ends
        self.deeds = tuple([tuple(deed) for deed in deeds])

    def __eq__(self, other):
        return isinstance(other, Tangle) and self.ends == other.ends and self.deeds == other.deeds

    def __str__(self):
        return "\n".join([f"ends {self.ends}"] + deed_lines(self.deeds))

    @staticmethod
    def read(text):
        """The Tangle whose text this is."""
        lines = lines_in(text)
        demand_items(lines[0], 0, (("ends",), written(list(range(0, MOST_AT_RIM + 1, 2)))))
        ends = int(lines[0][1])
        return Tangle(ends, read_deeds(lines, ends, 0))


def demand_tangle(value, part):
    """Refuse what is no Tangle."""
    if not isinstance(value, Tangle):
        raise BadTangle(part)


def turned(tangle, gap):
    """The tangle whose rim is told from a gap on."""
    demand_tangle(tangle, "tangle")
    # A rim without ends has a gap, too.
    demand_within(gap, 0, max(tangle.ends, 1) - 1, "gap")
    if gap == 0:
        return Tangle(tangle.ends, tangle.deeds)
    if len(tangle.deeds) == MOST_DEEDS:
        raise TooMany("deeds", MOST_DEEDS)
    return Tangle(tangle.ends, (("turn", tangle.ends - gap), *tangle.deeds))
