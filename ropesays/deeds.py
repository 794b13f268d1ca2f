"""Deeds: their words, where they fit on a ring, and how they are written."""

from ropesays.checks import is_within
from ropesays.errors import BadText, Misfit, TooMany
from ropesays.texts import demand_items, line_of, written

WORDS = ("over", "under", "join", "open", "turn")
CROSSINGS = ("over", "under")
MOST_DEEDS = 4000
MOST_ENDS = 24


def are_deeds(value):
    """Whether a value is a list of pairs of a word and a gap of some ring, not too many of them."""
    if not isinstance(value, (list, tuple)) or len(value) > MOST_DEEDS:
        return False
    return all([_is_deed(each) for each in value])


def _is_deed(value):
    """Whether a value is a pair of a word and a gap of some ring."""
    if not isinstance(value, (list, tuple)) or len(value) != 2:
        return False
    return isinstance(value[0], str) and value[0] in WORDS and is_within(value[1], 0, MOST_ENDS - 1)


def _fitting_gaps(word, many):
    """The gaps at which a deed of a word fits on a ring of so many ends."""
    if word == "open":
        # A ring without ends has a gap, too.
        return list(range(max(many, 1)))
    if word == "join" and many > 0:
        return list(range(1, max(many - 1, 2)))
    return list(range(many))


def ends_behind(word, many):
    """How many ends a ring of so many ends has behind a deed of a word."""
    if word == "join":
        return many - 2
    if word == "open":
        return many + 2
    return many


def demand_fitting(deeds, ends, inner):
    """Refuse deeds that cannot be done from a ring of so many ends on, or do not leave as many as are told."""
    many = ends
    for word, gap in deeds:
        if gap not in _fitting_gaps(word, many):
            raise Misfit("deeds")
        many = ends_behind(word, many)
        if many > MOST_ENDS:
            raise TooMany("ends", MOST_ENDS)
    if many != inner:
        raise Misfit("deeds")


def deed_lines(deeds):
    """The lines of a text that tell some deeds."""
    return [line_of(deed) for deed in deeds]


def _fitting_words(many):
    """The words of which a deed can be done at some gap of a ring of so many ends."""
    return tuple([word for word in WORDS if _fitting_gaps(word, many) and ends_behind(word, many) <= MOST_ENDS])


def read_deeds(lines, ends, inner):
    """The deeds that the lines behind line 0 tell, from a ring of so many ends to one of as many as are told."""
    deeds = []
    many = ends
    for line in range(1, len(lines)):
        word = lines[line][0]
        words = _fitting_words(many) if line <= MOST_DEEDS else ()
        demand_items(lines[line], line, (words, written(_fitting_gaps(word, many))))
        deeds.append((word, int(lines[line][1])))
        many = ends_behind(word, many)
    if many != inner:
        raise BadText(len(lines), 0)
    return deeds
