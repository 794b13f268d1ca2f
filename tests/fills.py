"""For the tests: markings found by trying all marks, and tangles of just so many regions."""

import itertools
import random

from tests.knots import closing, some_deeds
from tests.test_regions import counted_regions, told_floor


def told_markings(clock, ends, deeds):
    """The regions of the rim's gaps, and all markings, each mark being tried, by the rules as the document tells."""
    rings, crossings = told_floor(ends, deeds)
    found = []
    for marks in itertools.product(range(clock), repeat=counted_regions(ends, deeds)):
        if all(told_kept(clock, crossing, marks) for crossing in crossings):
            found.append(marks)
    return rings[0], found


def told_kept(clock, crossing, marks):
    word, left, out, right, inner = [crossing[0], *[marks[region] for region in crossing[1:]]]
    if word == "over":
        return (left + out) % clock == (right + inner) % clock
    return (out + right) % clock == (left + inner) % clock


def few_deeds(seed, most_regions, many=60):
    """So many lists of deeds, with their ends, that make at most so many regions."""
    source = random.Random(seed)
    told = []
    while len(told) < many:
        ends = source.choice((0, 0, 2, 2, 4, 4, 6, 8))
        deeds = some_deeds(ends, source.choice((1, 2, 3, 5, 8, 12)), source, source.choice((2, 4, 6, 24)))
        if counted_regions(ends, deeds) <= most_regions:
            told.append((ends, deeds))
    return told


def deeds_of_regions(ends, regions, source, most=18):
    """Deeds, on rings of at most so many ends, of just so many regions, most of them made by crossings."""
    deeds = some_deeds(ends, 3, source, most)
    while counted_regions(ends, deeds) < regions:
        # The joins at the end are undone, to go on ahead of them.
        while deeds and deeds[-1][0] == "join":
            deeds.pop()
        now = ends + sum({"open": 2, "join": -2}.get(word, 0) for word, _ in deeds)
        if now < min(most, 8):
            deeds.append(("open", source.randrange(max(now, 1))))
            now += 2
        deeds.append((source.choice(("over", "under")), source.randrange(now)))
        deeds += closing(now, source)
    return deeds


def tangle_of_regions(ends, regions):
    """The ends and deeds of a plain tangle of just so many regions: a twist, or loops alone without ends."""
    if ends == 0:
        return 0, [("open", 0), ("join", 1)] * (regions - 1)
    twist = regions - ends // 2 - 1
    return ends, [("over", 1)] * twist + [("join", 1)] * (ends // 2)
