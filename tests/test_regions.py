"""Promise 6: how many regions there are, those of the rim and of each ring, and the crossings with theirs."""

import random
import unittest

from ropesays.errors import BadTangle
from ropesays.regions import crossings_of, regions_of, rim_of, rings_of
from ropesays.tangles import Tangle, turned
from tests.knots import closing, greatest_deeds, many_deeds, some_deeds
from tests.refusals import Refusals
from tests.test_tangles import NO_TANGLES


def told_floor(ends, deeds):
    """The rings and crossings, each gap's number being exchanged everywhere as soon as it is known to be one."""
    ring = list(range(max(ends, 1)))
    rings, crossings, fresh = [list(ring)], [], len(ring)
    for word, k in deeds:
        size = len(ring)
        if word in ("over", "under"):
            crossings.append([word, ring[(k - 1) % size], ring[k], ring[(k + 1) % size], fresh])
            ring[k], fresh = fresh, fresh + 1
        elif word == "open":
            ring[k + 1:k + 1] = [fresh] if size == 1 else [fresh, ring[k]]
            fresh += 1
        elif word == "turn":
            ring = [ring[(k + at) % size] for at in range(size)]
        elif size == 2:
            ring = [ring[0]]
        else:
            least, most = min(ring[k - 1], ring[k + 1]), max(ring[k - 1], ring[k + 1])
            del ring[k:k + 2]
            for each in (ring, *rings, *crossings):
                each[:] = [least if number == most else number for number in each]
        rings.append(list(ring))
    numbers = sorted({number for each in rings for number in each})
    rings = tuple(tuple(numbers.index(number) for number in each) for each in rings)
    return rings, tuple((each[0], *[numbers.index(number) for number in each[1:]]) for each in crossings)


def counted_regions(ends, deeds):
    """How many regions there are by Euler's formula, from the crossings and from what hangs together."""
    # The rim is part 0, each new rope a part of its own, until it crosses others or is joined with them.
    parts, ring = [0], [0] * ends
    for word, k in deeds:
        if word == "open":
            parts.append(len(parts))
            ring[k:k] = [parts[-1]] * 2
        elif word == "turn":
            ring = ring[k:] + ring[:k]
        else:
            one, other = parts[ring[k - 1]], parts[ring[k]]
            parts = [one if part == other else part for part in parts]
            if word == "join":
                del ring[k - 1:k + 1]
            else:
                ring[k - 1], ring[k] = ring[k], ring[k - 1]
    crossings = len([word for word, k in deeds if word in ("over", "under")])
    return ends // 2 + crossings + len(set(parts))


class TestExamples(Refusals):

    def test_curl(self):
        curl = Tangle(4, [("over", 1), ("join", 1), ("join", 1)])
        self.assertEqual([regions_of(curl), rim_of(curl), crossings_of(curl), rings_of(curl)],
                         [4, (0, 1, 0, 2), (("over", 0, 1, 0, 3),), ((0, 1, 0, 2), (0, 3, 0, 2), (0, 2), (0,))])

    def test_one(self):
        one = Tangle(4, [("over", 1), ("turn", 1), ("join", 1), ("join", 1)])
        self.assertEqual([regions_of(one), rim_of(one), crossings_of(tangle=one), rings_of(one)[2], rings_of(one)[4]],
                         [4, (0, 1, 2, 3), (("over", 0, 1, 2, 3),), (3, 2, 3, 0), (3,)])

    def test_chain(self):
        chain = Tangle(0, [("open", 0), ("open", 1), ("over", 1), ("over", 1), ("join", 2), ("join", 1)])
        self.assertEqual([regions_of(chain), rim_of(chain), crossings_of(chain), rings_of(chain)[1:5]],
                         [4, (0,), (("over", 0, 1, 2, 3), ("over", 0, 3, 2, 1)),
                          ((0, 1), (0, 1, 2, 1), (0, 3, 2, 1), (0, 1, 2, 1))])


class TestByHand(Refusals):

    def check(self, ends, deeds, rings, crossings=()):
        tangle = Tangle(ends, deeds)
        self.assertEqual((rings_of(tangle), crossings_of(tangle)), (rings, crossings))
        self.assertEqual((rim_of(tangle), regions_of(tangle)), (rings[0], 1 + max(map(max, rings))))

    def test_without_deeds(self):
        self.check(0, [], ((0,),))

    def test_two_ends(self):
        self.check(2, [("join", 1)], ((0, 1), (0,)))
        # Left and right are one region, gap 1, as gap 0 is crossed, and gap 0, as gap 1 is.
        self.check(2, [("over", 0), ("under", 1), ("turn", 1), ("join", 1)],
                   ((0, 1), (2, 1), (2, 3), (3, 2), (3,)), (("over", 1, 0, 1, 2), ("under", 2, 1, 2, 3)))

    def test_a_rope_of_its_own(self):
        self.check(0, [("open", 0), ("join", 1)], ((0,), (0, 1), (0,)))
        self.check(0, [("open", 0), ("turn", 1), ("join", 1)], ((0,), (0, 1), (1, 0), (1,)))
        self.check(2, [("open", 0), ("join", 1), ("join", 1)], ((0, 1), (0, 2, 0, 1), (0, 1), (0,)))
        # Here the new rope is joined with an old one, and only bends it.
        self.check(2, [("open", 0), ("join", 2), ("join", 1)], ((0, 1), (0, 1, 0, 1), (0, 1), (0,)))

    def test_joins_make_one_of_two(self):
        self.check(4, [("join", 1), ("join", 1)], ((0, 1, 0, 2), (0, 2), (0,)))
        self.check(4, [("join", 2), ("join", 1)], ((0, 1, 2, 1), (0, 1), (0,)))
        self.check(6, [("join", 2), ("join", 2), ("join", 1)],
                   ((0, 1, 2, 1, 3, 1), (0, 1, 3, 1), (0, 1), (0,)))
        # What the first two joins made one, each by itself, the third one makes one; all of it has the least number.
        self.check(8, [("join", 3), ("turn", 4), ("join", 1), ("turn", 2), ("join", 1), ("join", 1)],
                   ((0, 1, 0, 2, 0, 3, 0, 4), (0, 1, 0, 3, 0, 4), (0, 4, 0, 1, 0, 3), (0, 1, 0, 3), (0, 3, 0, 1),
                    (0, 1), (0,)))

    def test_crossings_at_both_ends_of_the_ring(self):
        self.check(4, [("under", 0), ("over", 3), ("turn", 2), ("turn", 2), ("turn", 0), ("join", 1), ("join", 1)],
                   ((0, 1, 2, 3), (2, 1, 2, 3), (2, 1, 2, 4), (2, 4, 2, 1), (2, 1, 2, 4), (2, 1, 2, 4), (2, 4), (2,)),
                   (("under", 3, 0, 1, 2), ("over", 2, 3, 2, 4)))

    def test_numbers_are_closed_up(self):
        # Gap 3 falls out; the gap of the crossing, which was number 4, and that of the open come one number sooner.
        self.check(4, [("join", 2), ("over", 0), ("open", 1), ("join", 2), ("join", 1)],
                   ((0, 1, 2, 1), (0, 1), (3, 1), (3, 1, 4, 1), (3, 1), (3,)), (("over", 1, 0, 1, 3),))


class TestByChance(Refusals):

    def tangles(self):
        for seed in range(4, 9):
            yield from many_deeds(seed)
            yield from many_deeds(seed, 6)

    def test_rings_and_crossings(self):
        for ends, deeds in self.tangles():
            tangle = Tangle(ends, deeds)
            rings, crossings = told_floor(ends, deeds)
            self.assertEqual(rings_of(tangle), rings)
            self.assertEqual(crossings_of(tangle), crossings)
            self.assertEqual(rim_of(tangle), rings[0])
            self.assertEqual(regions_of(tangle), len({number for ring in rings for number in ring}))
            self.assertEqual(len(rings), len(deeds) + 1)

    def test_tuples(self):
        for ends, deeds in many_deeds(9):
            tangle = Tangle(ends, deeds)
            told = (rim_of(tangle), rings_of(tangle), *rings_of(tangle), crossings_of(tangle), *crossings_of(tangle))
            self.assertEqual({type(each) for each in told}, {tuple})

    def test_how_many_by_euler(self):
        for ends, deeds in self.tangles():
            self.assertEqual(regions_of(Tangle(ends, deeds)), counted_regions(ends, deeds))

    def test_numbered_by_the_first_of_their_gaps(self):
        for ends, deeds in self.tangles():
            tangle = Tangle(ends, deeds)
            met = list(rim_of(tangle))
            for (word, gap), ring, behind in zip(deeds, rings_of(tangle), rings_of(tangle)[1:]):
                if word in ("over", "under"):
                    met.append(behind[gap])
                elif word == "open":
                    met.append(behind[gap + 1])
            first = list(dict.fromkeys(met))
            self.assertEqual(first, list(range(regions_of(tangle))))

    def test_like_a_chess_board(self):
        # On either side of a rope there are unlike colours; an end lies between each gap and the next one.
        for ends, deeds in self.tangles():
            tangle, shift, colours = Tangle(ends, deeds), 0, {}
            for (word, gap), ring in zip([("turn", 0), *deeds], rings_of(tangle)):
                shift += gap if word == "turn" else 0
                for at, region in enumerate(ring):
                    self.assertEqual(colours.setdefault(region, (at + shift) % 2), (at + shift) % 2)

    def test_turned_the_rim_alone_is_told_otherwise(self):
        for ends, deeds in many_deeds(10):
            tangle = Tangle(ends, deeds)
            for gap in range(ends):
                told = turned(tangle, gap)
                self.assertEqual(regions_of(told), regions_of(tangle))
                self.assertEqual(len(crossings_of(told)), len(crossings_of(tangle)))
                # Which gaps are one is told of both alike.
                pairs = {(rim_of(tangle)[(at + gap) % ends], rim_of(told)[at]) for at in range(ends)}
                self.assertEqual(len(pairs), len(set(rim_of(tangle))))
                self.assertEqual(len(pairs), len(set(rim_of(told))))


class TestTheGreatest(Refusals):

    def test_four_thousand_deeds(self):
        tangle = Tangle(0, greatest_deeds())
        self.assertEqual(max(map(len, rings_of(tangle))), 24)
        self.assertEqual(len(crossings_of(tangle)), 994 * 3)
        self.assertEqual(regions_of(tangle), counted_regions(0, greatest_deeds()))

    def test_many_regions_of_many_gaps(self):
        source = random.Random(11)
        for ends in (0, 16):
            # Behind them stand at most twelve joins.
            deeds = some_deeds(ends, 3988, source)
            tangle = Tangle(ends, deeds)
            self.assertEqual(regions_of(tangle), counted_regions(ends, deeds))
            self.assertEqual(len(rings_of(tangle)), len(deeds) + 1)

    def test_gaps_that_come_to_be_one_late(self):
        # Each time a new rope is joined with the next one, so that one region grows all the way.
        deeds = [("open", 0), ("join", 2)] * 1999 + [("join", 1)]
        tangle = Tangle(2, deeds)
        self.assertEqual((regions_of(tangle), rim_of(tangle)), (2, (0, 1)))
        deeds = [("open", 0), ("join", 1)] * 1999 + [("join", 1)]
        self.assertEqual(regions_of(Tangle(2, deeds)), 2001)


class TestRefusals(Refusals):

    def test_no_tangle(self):
        for call in (regions_of, rim_of, rings_of, crossings_of):
            for value in NO_TANGLES:
                self.refused(BadTangle, "tangle", call, value)
            self.refused(BadTangle, "tangle", call, tangle=None)


if __name__ == "__main__":
    unittest.main()
