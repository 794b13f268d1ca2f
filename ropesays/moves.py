"""Moves: a few deeds are exchanged or taken out, and what is let through stays as it was."""

from ropesays.deeds import CROSSINGS, ends_behind
from ropesays.demands import demand_within
from ropesays.errors import BadWord, Misfit
from ropesays.tangles import Tangle, demand_tangle

MOVES = ("undo", "far", "three", "curl", "bend")
PULLS = ("undo", "curl", "bend")

# How many deeds a move exchanges or takes out, or looks at.
TAKEN = {"undo": 2, "far": 2, "three": 3, "curl": 2, "bend": 2}
MOST_TAKEN = 3


def move_words():
    """The words of the five moves."""
    return MOVES


def _are_crossings(deeds, many):
    """Whether so many deeds stand there, and are crossings."""
    return len(deeds) >= many and all([word in CROSSINGS for word, _ in deeds[:many]])


def _are_neighbours(ends, one, other):
    """Whether two gaps of a ring with so many ends are unlike, and one of them comes next behind the other."""
    return one != other and (one - other) % ends in (1, ends - 1)


def _is_undo(ends, deeds):
    """Whether the first deeds are an over and an under at one gap, in any order."""
    return _are_crossings(deeds, 2) and deeds[0][1] == deeds[1][1] and deeds[0][0] != deeds[1][0]


def _is_far(ends, deeds):
    """Whether the first deeds are crossings neither of which changes what the other one asks for."""
    if not _are_crossings(deeds, 2) or deeds[0][1] == deeds[1][1]:
        return False
    return not _are_neighbours(ends, deeds[0][1], deeds[1][1])


def _is_three(ends, deeds):
    """Whether the first deeds are three crossings of one word, at a gap, a neighbour of it, and this gap again."""
    if ends < 4 or not _are_crossings(deeds, 3):
        return False
    return deeds[0] == deeds[2] and deeds[0][0] == deeds[1][0] and _are_neighbours(ends, deeds[0][1], deeds[1][1])


def _is_curl(ends, deeds):
    """Whether the first deeds are a crossing and the join that shuts its gap."""
    return _are_crossings(deeds, 1) and deeds[1:2] == (("join", deeds[0][1]),)


def _is_bend(ends, deeds):
    """Whether the first deeds are an open on a ring with ends, and a join of the new rope with one beside it."""
    if ends == 0 or deeds[0][0] != "open":
        return False
    # What is opened is joined at last, so there is a deed behind it.
    return deeds[1] in (("join", deeds[0][1]), ("join", deeds[0][1] + 2))


FITTING = {"undo": _is_undo, "far": _is_far, "three": _is_three, "curl": _is_curl, "bend": _is_bend}


def _fits(word, ends, deeds):
    """Whether a move fits at the first of some deeds, the ring ahead of which has so many ends."""
    fits = FITTING[word]
    return fits(ends, deeds)


def _fitting(words, ends, deeds):
    """Those of some moves that fit at the first of some deeds."""
    return tuple([word for word in words if _fits(word, ends, deeds)])


def moves_at(tangle, at):
    """The words of the moves that fit at the deed with an index."""
    demand_tangle(tangle, "tangle")
    demand_within(at, 0, len(tangle.deeds) - 1, "at")
    many = tangle.ends
    for word, _ in tangle.deeds[:at]:
        many = ends_behind(word, many)
    return _fitting(MOVES, many, tangle.deeds[at:at + MOST_TAKEN])


def moved(tangle, at, word):
    """The tangle that comes of a move at the deed with an index."""
    words = moves_at(tangle, at)
    if not isinstance(word, str) or word not in MOVES:
        raise BadWord("word")
    if word not in words:
        raise Misfit("word")
    behind = at + TAKEN[word]
    made = _made(word, tangle.deeds[at:behind])
    return Tangle(tangle.ends, tangle.deeds[:at] + made + tangle.deeds[behind:])


def _made(word, deeds):
    """The deeds that come of a move in the place of those that it takes."""
    if word == "far":
        return (deeds[1], deeds[0])
    if word == "three":
        return (deeds[1], deeds[0], deeds[1])
    if word == "curl":
        return deeds[1:]
    return ()


def pulled(tangle):
    """The tangle that is left if undo, curl and bend are made, always the first that fits, until none fits."""
    demand_tangle(tangle, "tangle")
    # None fits among the deeds that are kept, so the first one that fits is always at the last of these.
    kept = []
    many = tangle.ends
    for deed in tangle.deeds:
        _pull(kept, many, deed)
        many = ends_behind(deed[0], many)
    return Tangle(tangle.ends, [deed for _, deed in kept])


def _pull(kept, ends, deed):
    """Keep one more deed, with the ends of the ring ahead of it, or make the moves that fit with it."""
    while kept:
        ahead, last = kept[-1]
        words = _fitting(PULLS, ahead, (last, deed))
        if not words:
            break
        kept.pop()
        if words[0] != "curl":
            return
    kept.append((ends, deed))
