"""Promises 2, 7 and 8: which moves fit at a deed, what comes of them, and what is left when a tangle is pulled."""

import itertools
import random
import unittest

from ropesays.errors import BadNumber, BadTangle, BadWord, Misfit
from ropesays.moves import move_words, moved, moves_at, pulled
from ropesays.regions import regions_of
from ropesays.ropes import loops_of, ropes_of
from ropesays.tangles import Tangle
from ropesays.through import free_depth, through
from tests.knots import closing, many_deeds, some_deeds, told_ends, told_gaps
from tests.odd import CLOCKS, NO_INTEGERS
from tests.refusals import NO_STRINGS, Refusals
from tests.soon import Soon
from tests.test_tangles import NO_TANGLES, joins, opens

WORDS = ("undo", "far", "three", "curl", "bend")
CROSSINGS = ("over", "under")

SOME = Tangle(4, [("over", 1), ("over", 2), ("over", 1), ("join", 1), ("join", 1)])
WIDE = Tangle(4, [("over", 3), ("under", 1), ("over", 1), ("under", 0), ("join", 2), ("join", 1)])
TURNED_IN = Tangle(2, [("open", 1), ("join", 1), ("open", 0), ("join", 2), ("open", 0), ("join", 1), ("join", 1)])


def ends_at(ends, deeds, at):
    for word, _ in deeds[:at]:
        ends = told_ends(word, ends)
    return ends


def told_moves(ends, deeds, at):
    """For each move that fits what stands in the place of how many deeds, as the document's table tells."""
    size = ends_at(ends, deeds, at)
    words, gaps = [word for word, _ in deeds[at:at + 3]], [gap for _, gap in deeds[at:at + 3]]
    crossing = [word in CROSSINGS for word in words] + [False] * 3
    near = {(gap, (gap + 1) % size) for gap in range(size)} | {((gap + 1) % size, gap) for gap in range(size)}
    near = {pair for pair in near if pair[0] != pair[1]}
    told = {}
    if crossing[0] and crossing[1]:
        if gaps[0] == gaps[1] and {*words[:2]} == {"over", "under"}:
            told["undo"] = ([], 2)
        if gaps[0] != gaps[1] and (gaps[0], gaps[1]) not in near:
            told["far"] = ([deeds[at + 1], deeds[at]], 2)
        if crossing[2] and len({*words}) == 1 and gaps[0] == gaps[2] and (gaps[0], gaps[1]) in near and size >= 4:
            told["three"] = ([(words[0], gaps[1]), (words[0], gaps[0]), (words[0], gaps[1])], 3)
    if crossing[0] and words[1] == "join" and gaps[0] == gaps[1]:
        told["curl"] = ([deeds[at + 1]], 2)
    if words[0] == "open" and size > 0 and words[1] == "join" and gaps[1] - gaps[0] in (0, 2):
        told["bend"] = ([], 2)
    return {word: told[word] for word in WORDS if word in told}


def told_pulled(ends, deeds):
    """The first of undo, curl and bend is made at the first deed where one fits, again and again."""
    deeds = list(deeds)
    while True:
        for at in range(len(deeds)):
            fitting = {word: told for word, told in told_moves(ends, deeds, at).items() if word not in ("far", "three")}
            if fitting:
                made, taken = list(fitting.values())[0]
                deeds[at:at + taken] = made
                break
        else:
            return tuple(deeds)


def busy_deeds(ends, many, source, most=6):
    """Deeds by chance, among them many at which moves fit."""
    deeds, now = [], ends
    while len(deeds) < many:
        gap = source.randrange(max(now, 1))
        if now == 0:
            more = [("open", 0), source.choice([("over", 1), ("under", 0), ("turn", 1), ("open", 0)])]
        else:
            beside, word = (gap + 1) % now, source.choice(CROSSINGS)
            other = CROSSINGS[1 - CROSSINGS.index(word)]
            more = source.choice((
                [(word, gap), (other, gap)], [(word, gap), (word, beside), (word, gap)], [(word, gap), (other, beside)],
                [(word, gap), (word, (gap + 2) % now)], [("turn", gap)], [(word, gap)],
                [("open", gap), ("join", gap)], [("open", gap), ("join", gap + 2)], [("open", gap), ("join", gap + 1)],
                [("open", gap)], [(word, gap), ("join", gap)], [("join", gap)],
            ))
        # Only what fits is taken.
        ahead, good = now, []
        for word, gap in more:
            if gap not in told_gaps(word, ahead) or told_ends(word, ahead) > most:
                break
            ahead, good = told_ends(word, ahead), good + [(word, gap)]
        deeds, now = deeds + good, ahead
    return deeds + closing(now, source)


def busy_tangles(seed, many=40, length=14):
    source = random.Random(seed)
    for _ in range(many):
        ends = source.choice((0, 2, 2, 4, 4, 6, 8, 16))
        yield ends, busy_deeds(ends, source.randrange(1, length), source, max(ends, 6) + 2)


class TestExamples(Refusals):

    def test_words(self):
        self.assertEqual(move_words(), ("undo", "far", "three", "curl", "bend"))

    def test_some(self):
        self.assertEqual([moves_at(SOME, at) for at in range(5)], [("three",), (), ("curl",), (), ()])
        self.assertEqual([moved(SOME, 0, "three").deeds, moved(SOME, 2, "curl").deeds],
                         [(("over", 2), ("over", 1), ("over", 2), ("join", 1), ("join", 1)),
                          (("over", 1), ("over", 2), ("join", 1), ("join", 1))])

    def test_wide(self):
        self.assertEqual([moves_at(WIDE, at) for at in range(4)], [("far",), ("undo",), (), ()])
        self.assertEqual([moved(tangle=WIDE, at=0, word="far").deeds[:2], moved(WIDE, 1, "undo").deeds],
                         [(("under", 1), ("over", 3)), (("over", 3), ("under", 0), ("join", 2), ("join", 1))])

    def test_turned_in(self):
        self.assertEqual([moves_at(TURNED_IN, at) for at in range(6)], [("bend",), (), ("bend",), (), (), ()])
        self.assertEqual(pulled(TURNED_IN).deeds, (("open", 0), ("join", 1), ("join", 1)))

    def test_pulled(self):
        tangle = Tangle(4, [("over", 1), ("over", 2), ("under", 2), ("under", 1), ("open", 2), ("join", 2),
                            ("under", 1), ("join", 1), ("join", 1)])
        self.assertEqual(pulled(tangle).deeds, (("join", 1), ("join", 1)))

    def test_refusals(self):
        self.refused(Misfit, "word", moved, SOME, 1, "far")
        self.refused(BadNumber, "at", moved, SOME, 5, "far")
        self.refused(BadWord, "word", moved, SOME, 0, "twist")


class TestByHand(Refusals):

    def check(self, ends, deeds, *words):
        """Which moves fit at the first deed of a ring of so many ends; behind them the ring is joined."""
        self.assertEqual(moves_at(Tangle(0, opens(ends // 2) + deeds), ends // 2), words, (ends, deeds))

    def test_two_crossings_on_each_ring(self):
        for ends in range(2, 25, 2):
            behind = joins(ends)
            for one, other in itertools.product(range(ends), repeat=2):
                near = (one - other) % ends in (1, ends - 1)
                for words in itertools.product(CROSSINGS, repeat=2):
                    if one == other:
                        wanted = ["undo"] if words[0] != words[1] else []
                    else:
                        wanted = [] if near else ["far"]
                    # Behind them a turn stands, so that nothing else comes of them.
                    self.check(ends, [(words[0], one), (words[1], other), ("turn", 0), *behind], *wanted)

    def test_three_on_each_ring(self):
        for ends in (2, 4, 6, 24):
            behind = [("turn", 0), *joins(ends)]
            for one, other in itertools.product(range(ends), repeat=2):
                near = (one - other) % ends in (1, ends - 1)
                for words in itertools.product(CROSSINGS, repeat=3):
                    deeds = [(words[0], one), (words[1], other), (words[2], one)]
                    told = moves_at(Tangle(0, opens(ends // 2) + deeds + behind), ends // 2)
                    self.assertIs("three" in told, near and ends >= 4 and len({*words}) == 1)
        self.check(4, [("over", 1), ("over", 2), ("over", 2), *joins(4)])
        self.check(4, [("over", 1), ("over", 2), ("over", 3), *joins(4)])
        self.check(4, [("over", 1), ("over", 2), ("turn", 1), *joins(4)])
        self.check(6, [("under", 0), ("under", 5), ("under", 0), *joins(6)], "three")

    def test_curl_on_each_ring(self):
        for ends in range(2, 25, 2):
            for word in CROSSINGS:
                for one in range(ends):
                    for other in told_gaps("join", ends):
                        wanted = ["curl"] if one == other else []
                        self.check(ends, [(word, one), ("join", other), *joins(ends - 2)], *wanted)
        self.check(4, [("turn", 1), ("join", 1), ("join", 1)])
        self.check(4, [("over", 1), ("open", 1), *joins(6)])

    def test_bend_on_each_ring(self):
        for ends in range(0, 23, 2):
            for one in told_gaps("open", ends):
                for other in told_gaps("join", ends + 2):
                    wanted = ["bend"] if ends and other in (one, one + 2) else []
                    self.check(ends, [("open", one), ("join", other), *joins(ends)], *wanted)
        self.check(0, [("open", 0), ("join", 1)])
        self.check(2, [("open", 0), ("over", 0), *joins(4)])
        self.check(2, [("open", 0), ("open", 0), *joins(6)])

    def test_what_comes_of_each(self):
        for deeds, word, made in (
            ([("over", 3), ("under", 3)], "undo", []),
            ([("under", 0), ("over", 0)], "undo", []),
            ([("under", 0), ("over", 2)], "far", [("over", 2), ("under", 0)]),
            ([("over", 3), ("over", 0), ("over", 3)], "three", [("over", 0), ("over", 3), ("over", 0)]),
            ([("under", 2), ("under", 1), ("under", 2)], "three", [("under", 1), ("under", 2), ("under", 1)]),
            ([("under", 2), ("join", 2), ("open", 0)], "curl", [("join", 2), ("open", 0)]),
            ([("open", 3), ("join", 3)], "bend", []),
            ([("open", 2), ("join", 4)], "bend", []),
        ):
            for ahead, behind in ([], []), ([("turn", 1)], [("turn", 2)]):
                tangle = Tangle(4, ahead + deeds + behind + joins(4))
                at = len(ahead)
                self.assertIn(word, moves_at(tangle, at))
                self.assertEqual(moved(tangle, at, word), Tangle(4, ahead + made + behind + joins(4)))
                self.assertEqual(tangle.deeds, tuple(ahead + deeds + behind + joins(4)))


class TestByChance(Refusals):

    def tangles(self, seed):
        yield from busy_tangles(seed)
        yield from many_deeds(seed, 6)

    def test_fitting(self):
        met = set()
        for seed in (90, 91, 92):
            for ends, deeds in self.tangles(seed):
                tangle = Tangle(ends, deeds)
                for at in range(len(deeds)):
                    told = told_moves(ends, deeds, at)
                    self.assertEqual(moves_at(tangle, at), tuple(told))
                    met.update(told)
        self.assertEqual(met, set(WORDS))

    def test_what_comes(self):
        for ends, deeds in self.tangles(93):
            tangle = Tangle(ends, deeds)
            for at in range(len(deeds)):
                told = told_moves(ends, deeds, at)
                for word in WORDS:
                    if word in told:
                        made, taken = told[word]
                        wanted = deeds[:at] + made + deeds[at + taken:]
                        self.assertEqual(moved(tangle, at, word), Tangle(ends, wanted))
                    else:
                        self.refused(Misfit, "word", moved, tangle, at, word)

    def test_what_is_let_through_stays(self):
        made = {word: 0 for word in WORDS}
        for ends, deeds in itertools.chain(self.tangles(94), self.tangles(89)):
            tangle = Tangle(ends, deeds)
            for at in range(len(deeds)):
                for word in moves_at(tangle, at):
                    other = moved(tangle, at, word)
                    made[word] += 1
                    for clock in (3, 5, 31) if made[word] < 40 else (7,):
                        self.assertEqual(through(other, clock), through(tangle, clock))
                        self.assertEqual(free_depth(other, clock), free_depth(tangle, clock))
                    self.assertEqual((ropes_of(other), loops_of(other)), (ropes_of(tangle), loops_of(tangle)))
        self.assertGreater(min(made.values()), 10)

    def test_far_and_three_are_taken_back(self):
        for ends, deeds in self.tangles(95):
            tangle = Tangle(ends, deeds)
            for at in range(len(deeds)):
                for word in set(moves_at(tangle, at)) & {"far", "three"}:
                    self.assertEqual(moved(moved(tangle, at, word), at, word), tangle)


class TestPulled(Soon, Refusals):

    def test_step_by_step(self):
        shorter = 0
        for ends, deeds in itertools.chain(busy_tangles(96, 120, 40), many_deeds(97, 6), many_deeds(98)):
            tangle = Tangle(ends, deeds)
            told = pulled(tangle)
            self.assertIs(type(told), Tangle)
            self.assertEqual((told.ends, told.deeds), (ends, told_pulled(ends, deeds)))
            shorter += len(told.deeds) < len(deeds)
            self.assertEqual(tangle.deeds, tuple(deeds))
        self.assertGreater(shorter, 100)

    def test_none_fits_any_more(self):
        for ends, deeds in busy_tangles(99):
            told = pulled(tangle=Tangle(ends, deeds))
            for at in range(len(told.deeds)):
                self.assertFalse({"undo", "curl", "bend"} & set(moves_at(told, at)))
            self.assertEqual(pulled(told), told)

    def test_what_is_let_through_stays(self):
        for ends, deeds in busy_tangles(100, 60, 60):
            tangle = Tangle(ends, deeds)
            told = pulled(tangle)
            for clock in (3, 31):
                self.assertEqual(through(told, clock), through(tangle, clock))
                self.assertEqual(free_depth(told, clock), free_depth(tangle, clock))
            self.assertEqual((ropes_of(told), loops_of(told)), (ropes_of(tangle), loops_of(tangle)))

    def test_the_first_one_is_made_first(self):
        # The first two are taken out, not the last two; what is left tells which.
        tangle = Tangle(4, [("over", 1), ("under", 1), ("over", 1), ("turn", 1), *joins(4)])
        self.assertEqual(pulled(tangle).deeds, (("over", 1), ("turn", 1), *joins(4)))
        # The join that ends a bend shuts a crossing first.
        tangle = Tangle(2, [("open", 0), ("over", 2), ("join", 2), *joins(2)])
        self.assertEqual(pulled(tangle).deeds, (("join", 1),))
        tangle = Tangle(2, [("open", 0), ("join", 2), ("join", 1)])
        self.assertEqual(pulled(tangle).deeds, (("join", 1),))

    def test_nothing_to_pull(self):
        for tangle in (Tangle(0, []), Tangle(2, joins(2)), Tangle(0, [("open", 0), ("join", 1)]), WIDE, SOME):
            left = told_pulled(tangle.ends, tangle.deeds)
            self.assertEqual(pulled(tangle).deeds, left)
        self.assertEqual(pulled(Tangle(0, [("open", 0), ("join", 1)])).deeds, (("open", 0), ("join", 1)))
        # On two ends a crossing with the rope itself is pulled out only where the join shuts it.
        self.assertEqual(pulled(Tangle(2, [("over", 0), ("join", 1)])).deeds, (("over", 0), ("join", 1)))
        self.assertEqual(pulled(Tangle(2, [("over", 1), ("under", 0), ("join", 1)])).deeds,
                         (("over", 1), ("under", 0), ("join", 1)))

    def test_great_tangles(self):
        nested = [("over", 1)] * 125 + [("under", 1)] * 125
        for deeds in (nested, nested * 8, nested * 15 + [("over", 1)] * 200, [("open", 0), ("join", 2)] * 1900):
            tangle = Tangle(4, deeds + joins(4))
            with self.soon():
                told = pulled(tangle)
            self.assertEqual(told, Tangle(4, joins(4)))
        source = random.Random(101)
        for ends in (0, 4, 16):
            deeds = some_deeds(ends, 241, source, 18)
            with self.soon():
                told = pulled(Tangle(ends, deeds))
            self.assertEqual(told.deeds, told_pulled(ends, deeds))

    def test_far_along(self):
        # Moves at each deed of a tangle of 600 deeds.
        source = random.Random(102)
        deeds = some_deeds(16, 591, source, 18)
        tangle = Tangle(16, deeds)
        with self.soon():
            told = [moves_at(tangle, at) for at in range(len(deeds))]
        self.assertEqual(told, [tuple(told_moves(16, deeds, at)) for at in range(len(deeds))])
        at = max(at for at, words in enumerate(told) if "far" in words)
        other = moved(tangle, at, "far")
        for clock in CLOCKS:
            self.assertEqual(through(other, clock), through(tangle, clock))
        self.assertEqual(regions_of(other), regions_of(tangle))


class TestRefusals(Refusals):

    def test_no_tangle(self):
        for value in NO_TANGLES:
            self.refused(BadTangle, "tangle", moves_at, value, 0)
            self.refused(BadTangle, "tangle", moved, value, 0, "far")
            self.refused(BadTangle, "tangle", pulled, value)

    def test_no_index(self):
        for tangle in (Tangle(0, []), Tangle(2, joins(2)), SOME):
            many = len(tangle.deeds)
            for at in (-1, many, many + 1, 10 ** 30, *NO_INTEGERS):
                self.refused(BadNumber, "at", moves_at, tangle, at)
                self.refused(BadNumber, "at", moved, tangle, at, "far")

    def test_no_word(self):
        for word in ("", "Undo", "far ", "twist", "over", "undo far", "un", *NO_STRINGS, *NO_INTEGERS, ["undo"],
                     ("undo",), b"undo"):
            self.refused(BadWord, "word", moved, SOME, 0, word)

    def test_what_does_not_fit(self):
        for at in range(5):
            for word in WORDS:
                if word not in moves_at(SOME, at):
                    self.refused(Misfit, "word", moved, SOME, at, word)

    def test_the_first_wrong_one_is_refused(self):
        self.refused(BadTangle, "tangle", moves_at, None, None)
        self.refused(BadTangle, "tangle", moved, None, None, None)
        self.refused(BadNumber, "at", moved, SOME, 5, "twist")
        self.refused(BadNumber, "at", moved, word=None, at=True, tangle=SOME)
        self.refused(BadWord, "word", moved, SOME, 1, "twist")


if __name__ == "__main__":
    unittest.main()
