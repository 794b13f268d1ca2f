"""Bands: deeds that lead from a rim to an inner ring; what passes between both, and what is let in."""

from ropesays.backward import led_back
from ropesays.checks import is_within
from ropesays.deeds import MOST_DEEDS, are_deeds, deed_lines, demand_fitting, read_deeds
from ropesays.demands import demand_clock, demand_even
from ropesays.errors import BadTangle, Misfit, TooMany
from ropesays.spaces import Space, demand_space
from ropesays.tangles import MOST_AT_RIM, Tangle, demand_tangle
from ropesays.texts import demand_items, lines_in, written


class Band:
    """Ropes in a box round a hole: the ends at the rim and at the inner ring, and what is done between them."""

    def __init__(self, ends, inner, deeds):
        _demand_ends(ends, "ends")
        _demand_ends(inner, "inner")
        if not are_deeds(deeds):
            raise BadTangle("deeds")
        demand_fitting(deeds, ends, inner)
        self.ends = ends
        self.inner = inner
        self.deeds = tuple([tuple(deed) for deed in deeds])

    def __eq__(self, other):
        if not isinstance(other, Band):
            return False
        return self.ends == other.ends and self.inner == other.inner and self.deeds == other.deeds

    def __str__(self):
        return "\n".join([f"ends {self.ends} inner {self.inner}"] + deed_lines(self.deeds))

    @staticmethod
    def read(text):
        """The Band whose text this is."""
        lines = lines_in(text)
        even = written(list(range(0, MOST_AT_RIM + 1, 2)))
        demand_items(lines[0], 0, (("ends",), even, ("inner",), even))
        ends, inner = int(lines[0][1]), int(lines[0][3])
        return Band(ends, inner, read_deeds(lines, ends, inner))


def _demand_ends(value, part):
    """Refuse what cannot be the number of ends of a rim, or of an inner ring."""
    if not is_within(value, 0, MOST_AT_RIM) or value % 2 != 0:
        raise BadTangle(part)


def _demand_band(value, part):
    """Refuse what is no Band."""
    if not isinstance(value, Band):
        raise BadTangle(part)


def _demand_few(deeds):
    """Refuse too many deeds."""
    if len(deeds) > MOST_DEEDS:
        raise TooMany("deeds", MOST_DEEDS)


def _gaps(ends):
    """How many gaps a ring of so many ends has."""
    return max(ends, 1)


def idle(ends):
    """The band without deeds."""
    demand_even(ends, 0, MOST_AT_RIM, "ends")
    return Band(ends, ends, ())


def put_ahead(band, tangle):
    """The tangle that comes if a band is put ahead of a tangle."""
    _demand_band(band, "band")
    demand_tangle(tangle, "tangle")
    if tangle.ends != band.inner:
        raise Misfit("tangle")
    deeds = band.deeds + tangle.deeds
    _demand_few(deeds)
    return Tangle(band.ends, deeds)


def chained(one, other):
    """The band that comes if a band is put ahead of another one."""
    _demand_band(one, "one")
    _demand_band(other, "other")
    if other.ends != one.inner:
        raise Misfit("other")
    deeds = one.deeds + other.deeds
    _demand_few(deeds)
    return Band(one.ends, other.inner, deeds)


def passing(band, clock):
    """The space of the rows that pass: numbers of the rim's gaps, and behind them those of the inner ring's."""
    _demand_band(band, "band")
    demand_clock(clock)
    inner = _gaps(band.inner)
    units = [(0,) * gap + (1,) + (0,) * (inner - gap - 1) for gap in range(inner)]
    # What stands at the inner ring is told twice there; then just one of both is led back to the rim.
    rows = led_back(clock, band.inner, [unit + unit for unit in units], band.deeds, inner)
    return Space(clock, _gaps(band.ends) + inner, rows)


def let_in(band, space):
    """The space of the rim's rows that are let in from a space of rows of the inner ring."""
    _demand_band(band, "band")
    demand_space(space, "space")
    if space.size != _gaps(band.inner):
        raise Misfit("space")
    return Space(space.clock, _gaps(band.ends), led_back(space.clock, band.inner, space.rows, band.deeds, 0))
