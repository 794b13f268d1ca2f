"""Promise 6: which ends of the rim one rope joins, and how many ropes are closed."""

import random
import unittest

from ropesays.errors import BadTangle
from ropesays.ropes import loops_of, ropes_of
from ropesays.tangles import Tangle, turned
from tests.knots import closing, greatest_deeds, many_deeds, some_deeds, told_ends
from tests.refusals import Refusals
from tests.soon import Soon
from tests.test_tangles import NO_TANGLES


def told_ropes(ends, deeds):
    """The pairs of rim's ends, and how many ropes meet no end of the rim, by going along each of them.

    Each end of each ring is a place (level, end); a deed leads from each place on to places of the next ring.
    """
    ways, size = {}, ends

    def tie(one, other):
        ways.setdefault(one, []).append(other)
        ways.setdefault(other, []).append(one)

    for level, (word, k) in enumerate(deeds):
        for end in range(size):
            ahead = (level, end)
            if word == "turn":
                tie(ahead, (level + 1, (end - k) % size))
            elif word == "open":
                tie(ahead, (level + 1, end if end < k else end + 2))
            elif word == "join":
                if end not in (k - 1, k):
                    tie(ahead, (level + 1, end if end < k else end - 2))
            else:
                swapped = {(k - 1) % size: k, k: (k - 1) % size}
                tie(ahead, (level + 1, swapped.get(end, end)))
        if word == "join":
            tie((level, k - 1), (level, k))
        if word == "open":
            tie((level + 1, k), (level + 1, k + 1))
        size = told_ends(word, size)
    pairs, loops, seen = [], 0, set()
    for place in sorted(ways):
        if place in seen:
            continue
        rope, left = [], [place]
        while left:
            now = left.pop()
            if now not in seen:
                seen.add(now)
                rope.append(now)
                left.extend(ways[now])
        at_rim = sorted(end for level, end in rope if level == 0)
        if at_rim:
            pairs.append(tuple(at_rim))
        else:
            loops += 1
    return tuple(sorted(pairs)), loops


class TestExamples(Refusals):

    def test_examples(self):
        curl = Tangle(4, [("over", 1), ["join", 1], ("join", 1)])
        one = Tangle(4, [("over", 1), ("turn", 1), ("join", 1), ("join", 1)])
        chain = Tangle(0, [("open", 0), ("open", 1), ("over", 1), ("over", 1), ("join", 2), ("join", 1)])
        told = [ropes_of(curl), ropes_of(one), ropes_of(tangle=chain), loops_of(one), loops_of(chain),
                loops_of(Tangle(0, [("open", 0), ("join", 1)]))]
        self.assertEqual(told, [((0, 1), (2, 3)), ((0, 2), (1, 3)), (), 0, 2, 1])


class TestByHand(Refusals):

    def check(self, ends, deeds, ropes, loops=0):
        tangle = Tangle(ends, deeds)
        self.assertEqual((ropes_of(tangle), loops_of(tangle=tangle)), (ropes, loops))

    def test_no_ends(self):
        self.check(0, [], ())
        self.check(0, [("open", 0), ("over", 1), ("under", 0), ("join", 1)], (), 1)

    def test_two_ends(self):
        self.check(2, [("join", 1)], ((0, 1),))
        self.check(2, [("over", 1), ("over", 0), ("turn", 1), ("join", 1)], ((0, 1),))

    def test_loops_alone(self):
        for many in range(1, 13):
            self.check(0, [("open", 0), ("join", 1)] * many, (), many)
            # One within the other: the innermost one is joined first.
            inward = [("open", at) for at in range(many)] + [("join", many - at) for at in range(many)]
            self.check(0, inward, (), many)
        # Both new ropes are joined to one another twice, so they are one.
        self.check(0, [("open", 0), ("open", 0), ("join", 2), ("join", 1)], (), 1)
        self.check(2, [("open", 0), ("join", 1), ("join", 1)], ((0, 1),), 1)

    def test_a_rope_that_is_bent(self):
        self.check(2, [("open", 0), ("join", 2), ("join", 1)], ((0, 1),))
        self.check(2, [("open", 1), ("join", 1), ("join", 1)], ((0, 1),))

    def test_crossings_of_a_rope_with_itself(self):
        self.check(2, [("over", 1)] * 5 + [("join", 1)], ((0, 1),))
        self.check(4, [("under", 1), ("join", 1), ("over", 0), ("join", 1)], ((0, 1), (2, 3)))

    def test_crossings_and_joins(self):
        self.check(4, [("join", 1), ("join", 1)], ((0, 1), (2, 3)))
        self.check(4, [("join", 2), ("join", 1)], ((0, 3), (1, 2)))
        self.check(4, [("over", 0), ("join", 1), ("join", 1)], ((0, 2), (1, 3)))
        self.check(4, [("over", 0), ("under", 1), ("join", 1), ("join", 1)], ((0, 2), (1, 3)))
        self.check(4, [("over", 0), ("under", 2), ("join", 1), ("join", 1)], ((0, 1), (2, 3)))
        # The last end comes ahead of gap 0; behind the turn it is end 0.
        self.check(6, [("turn", 5), ("join", 1), ("join", 1), ("join", 1)], ((0, 5), (1, 2), (3, 4)))
        self.check(16, closing(16, random.Random(0)), told_ropes(16, closing(16, random.Random(0)))[0])

    def test_over_and_under_alike(self):
        for ends, deeds in many_deeds(21):
            other = [({"over": "under", "under": "over"}.get(word, word), gap) for word, gap in deeds]
            one, other = Tangle(ends, deeds), Tangle(ends, other)
            self.assertEqual((ropes_of(one), loops_of(one)), (ropes_of(other), loops_of(other)))


class TestByChance(Refusals):

    def tangles(self):
        for seed in range(22, 27):
            yield from many_deeds(seed)
            yield from many_deeds(seed, 6)

    def test_gone_along(self):
        met = set()
        for ends, deeds in self.tangles():
            tangle = Tangle(ends, deeds)
            self.assertEqual((ropes_of(tangle), loops_of(tangle)), told_ropes(ends, deeds))
            met.add(loops_of(tangle))
        self.assertGreater(len(met), 4)

    def test_each_end_stands_once(self):
        for ends, deeds in self.tangles():
            told = ropes_of(Tangle(ends, deeds))
            self.assertIs(type(told), tuple)
            self.assertTrue(all(type(pair) is tuple and pair[0] < pair[1] for pair in told))
            self.assertEqual(sorted(end for pair in told for end in pair), list(range(ends)))
            self.assertEqual(list(told), sorted(told))

    def test_told_from_another_gap_on(self):
        for ends, deeds in many_deeds(27):
            tangle = Tangle(ends, deeds)
            for gap in range(max(ends, 1)):
                other = turned(tangle, gap)
                # End e stands between gap e and the next one, so it is turned as its gap is.
                wanted = sorted(tuple(sorted([(end - gap) % ends for end in pair])) for pair in ropes_of(tangle))
                self.assertEqual(ropes_of(other), tuple(wanted))
                self.assertEqual(loops_of(other), loops_of(tangle))


class TestTheGreatest(Soon, Refusals):

    def test_four_thousand_deeds(self):
        source = random.Random(28)
        for ends, deeds in ((0, greatest_deeds()), (0, some_deeds(0, 3988, source)), (16, some_deeds(16, 3988, source)),
                            (0, [("open", 0), ("join", 1)] * 2000), (4, some_deeds(4, 3998, source, 4))):
            tangle = Tangle(ends, deeds)
            with self.soon():
                told = (ropes_of(tangle), loops_of(tangle))
            self.assertEqual(told, told_ropes(ends, deeds))


class TestRefusals(Refusals):

    def test_no_tangle(self):
        for call in (ropes_of, loops_of):
            for value in NO_TANGLES:
                self.refused(BadTangle, "tangle", call, value)
            self.refused(BadTangle, "tangle", call, tangle=None)


if __name__ == "__main__":
    unittest.main()
