"""Promises 2, 5, 7, 8 and 13: what a band keeps and refuses, its text, bands ahead of others, what passes."""

import itertools
import random
import unittest

from ropesays.bands import Band, chained, idle, let_in, passing, put_ahead
from ropesays.errors import BadClock, BadNumber, BadSpace, BadTangle, Misfit
from ropesays.fairs import fair_spaces, is_fair
from ropesays.moves import pulled
from ropesays.papers import Paper
from ropesays.regions import regions_of
from ropesays.spaces import Space, holds, meeting, rows_in, upright
from ropesays.tangles import Tangle, turned
from ropesays.through import through
from tests.fills import told_kept
from tests.knots import WORDS, greatest_deeds, some_band_deeds, some_deeds, told_ends, told_gaps
from tests.odd import CLOCKS, NO_CLOCKS, NO_INTEGERS, NO_LISTS
from tests.refusals import NO_STRINGS, NO_WRITTEN, Refusals
from tests.soon import Soon
from tests.test_regions import told_floor
from tests.test_rims import told_swing
from tests.test_roped import some_space
from tests.test_spaces import NO_SPACES
from tests.test_tangles import JOIN, NO_DEEDS, NO_TANGLES
from tests.test_tied import some_fair

CURL, ARC = Band(4, 2, [("over", 1), ("join", 1)]), Tangle(2, [("join", 1)])
EVEN = range(0, 17, 2)
NO_BANDS = (*NO_TANGLES, ARC, (4, 2, CURL.deeds), str(CURL), Band, Paper("band", 4, 2, CURL.deeds))


def gaps(ends):
    return max(ends, 1)


def some_bands(seed, most=24, many=(0, 1, 3, 8, 20)):
    """For each rim and some inner rings bands by chance: the ends of both, and the deeds."""
    source = random.Random(seed)
    for ends in EVEN:
        for inner in EVEN:
            for count in source.sample(many, 2):
                yield ends, inner, some_band_deeds(ends, inner, count, source, most)


def told_passing(clock, ends, deeds):
    """What passes, as the document tells it: from the rules of all crossings, not from deed to deed."""
    rings, crossings = told_floor(ends, deeds)
    size = 1 + max(max(ring) for ring in rings)
    rules = []
    for word, left, out, right, inner in crossings:
        rule = [0] * size
        for sign, region in zip((1, 1, -1, -1) if word == "over" else (-1, 1, 1, -1), (left, out, right, inner)):
            rule[region] += sign
        rules.append([number % clock for number in rule])
    filled = upright(Space(clock, size, rules)).rows
    shown = rings[0] + rings[-1]
    return Space(clock, len(shown), [[marks[region] for region in shown] for marks in filled])


def let_in_by(passed, space, rim):
    """What is let in from a space, told from all that passes: those rows whose inner part is in the space."""
    within = [[0] * rim + list(row) for row in space.rows]
    free = [[int(at == lead) for at in range(passed.size)] for lead in range(rim)]
    rows = meeting(passed, Space(passed.clock, passed.size, free + within)).rows
    return Space(passed.clock, rim, [row[:rim] for row in rows])


class TestExamples(Refusals):

    def test_kept(self):
        told = [CURL.deeds, str(CURL), Band.read("ends 4 inner 2\nover 1\njoin 1") == CURL]
        self.assertEqual(told, [(("over", 1), ("join", 1)), "ends 4 inner 2\nover 1\njoin 1", True])
        self.assertEqual(passing(CURL, 3).rows, ((1, 0, 1, 0, 1, 0), (0, 1, 0, 0, 0, 0), (0, 0, 0, 1, 0, 1)))

    def test_put_together(self):
        told = [put_ahead(CURL, ARC).deeds, let_in(CURL, through(ARC, 3)) == through(put_ahead(CURL, ARC), 3),
                let_in(CURL, Space(3, 2, [[1, 1]])).rows]
        self.assertEqual(told, [(("over", 1), ("join", 1), ("join", 1)), True, ((1, 0, 1, 1), (0, 1, 0, 0))])
        told = [chained(idle(4), CURL) == CURL, chained(CURL, Band(2, 0, [["join", 1]])).inner,
                passing(idle(2), 5).rows]
        self.assertEqual(told, [True, 0, ((1, 0, 1, 0), (0, 1, 0, 1))])

    def test_refusals(self):
        self.refused(Misfit, "tangle", put_ahead, CURL, put_ahead(CURL, ARC))
        self.refused(Misfit, "deeds", Band, 4, 2, [("join", 3)])
        self.refused(Misfit, "space", let_in, CURL, Space(3, 4, []))


class TestBand(Refusals):

    def test_what_it_keeps(self):
        for ends, inner, deeds in some_bands(260):
            for given in (deeds, tuple(deeds), [list(deed) for deed in deeds], tuple(map(list, deeds))):
                band = Band(ends, inner, given)
                self.assertEqual((band.ends, band.inner, band.deeds), (ends, inner, tuple(deeds)))
                self.assertTrue(all(isinstance(deed, tuple) for deed in band.deeds))
        self.assertEqual(Band(deeds=[JOIN], inner=0, ends=2).inner, 0)

    def test_what_is_passed_is_copied(self):
        deeds = [["over", 0], ["join", 1]]
        band = Band(4, 2, deeds)
        deeds[0][0] = "under"
        deeds.append(["open", 0])
        self.assertEqual(band.deeds, (("over", 0), ("join", 1)))

    def test_ends_and_inner(self):
        for ends, inner in itertools.product(EVEN, repeat=2):
            more = [("open", 0)] * ((inner - ends) // 2) + [JOIN] * ((ends - inner) // 2)
            self.assertEqual(Band(ends, inner, more).ends, ends)
            for wrong in EVEN:
                if wrong != inner:
                    self.refused(Misfit, "deeds", Band, ends, wrong, more)
        for value in (-2, -1, 1, 3, 15, 17, 18, 24, 10 ** 30, *NO_INTEGERS):
            self.refused(BadTangle, "ends", Band, value, 2, [])
            self.refused(BadTangle, "inner", Band, 2, value, [])

    def test_no_deeds(self):
        for value in NO_DEEDS:
            self.refused(BadTangle, "deeds", Band, 2, 2, [("over", 1), value])
            self.refused(BadTangle, "deeds", Band, 2, 2, (value, ("over", 1)))
        for value in (("over", 1), "over 1", {("over", 1): 1}, *NO_LISTS):
            self.refused(BadTangle, "deeds", Band, 2, 2, value)

    def test_each_deed_on_each_ring(self):
        for ends in range(0, 25, 2):
            for word in WORDS:
                for gap in range(24):
                    behind = told_ends(word, ends)
                    ahead = [("open", 0)] * ((ends - 16) // 2) if ends > 16 else []
                    rim, inner = min(ends, 16), min(behind, 16)
                    deeds = ahead + [(word, gap)] + [JOIN] * ((behind - inner) // 2)
                    if gap not in told_gaps(word, ends):
                        self.refused(Misfit, "deeds", Band, rim, max(inner, 0), deeds)
                    elif behind > 24:
                        self.too_many("ends", 24, Band, rim, inner, deeds)
                    else:
                        self.assertEqual(Band(rim, inner, deeds).deeds[len(ahead)], (word, gap))

    def test_rings_of_24_ends(self):
        self.too_many("ends", 24, Band, 16, 16, [("open", 0)] * 5 + [JOIN] * 5)
        self.too_many("ends", 24, Band, 0, 0, [("open", 0)] * 13 + [("join", 0)])
        self.refused(Misfit, "deeds", Band, 16, 16, [("open", 0)] * 4 + [("join", 23), ("open", 0)])
        self.refused(Misfit, "deeds", Band, 16, 16, [("open", 0)] * 4)
        self.assertEqual(len(Band(16, 16, [("open", 0)] * 4 + [JOIN] * 4).deeds), 8)

    def test_four_thousand_deeds(self):
        for inner in EVEN:
            deeds = [("turn", 1)] * (4000 - inner // 2) + [("open", 0)] * (inner // 2)
            if inner:
                deeds = [("open", 0)] * (inner // 2) + [("turn", 1)] * (4000 - inner // 2)
                band = Band(0, inner, deeds)
                self.assertEqual((len(band.deeds), Band.read(str(band))), (4000, band))
            self.refused(BadTangle, "deeds", Band, 0, inner, deeds + [("turn", 0)])
        self.refused(BadTangle, "deeds", Band, 2, 2, (("over", 23),) * 4001)

    def test_the_first_wrong_one_is_refused(self):
        self.refused(BadTangle, "ends", Band, 3, 3, None)
        self.refused(BadTangle, "ends", Band, deeds=None, inner=None, ends=None)
        self.refused(BadTangle, "inner", Band, 4, 18, None)
        self.refused(BadTangle, "inner", Band, 4, True, [("join", 3)])
        self.refused(BadTangle, "deeds", Band, 4, 2, [("join", 3), ("join", 24)])
        self.refused(BadTangle, "deeds", Band, 0, 2, [("open", 0)] * 13 + [("over", True)])
        self.refused(Misfit, "deeds", Band, 4, 2, [("join", 3), *[("open", 0)] * 20])

    def test_equality(self):
        bands = [Band(0, 0, []), Band(2, 2, []), Band(2, 0, [JOIN]), Band(0, 2, [("open", 0)]), CURL,
                 Band(4, 2, [("under", 1), JOIN]), Band(2, 2, [("over", 0)]), Band(2, 2, [("over", 1)])]
        for one in bands:
            for other in bands:
                self.assertIs(one == other, one is other)
                self.assertIs(one != other, one is not other)
            self.assertIs(one == Band(one.ends, one.inner, list(map(list, one.deeds))), True)
            for value in (None, one.deeds, str(one), (one.ends, one.inner, one.deeds), object()):
                self.assertIs(one == value, False)
                self.assertIs(value == one, False)

    def test_no_band_is_a_tangle(self):
        for deeds, ends in (([], 0), ([JOIN], 2), ([("over", 1), JOIN, JOIN], 4)):
            band, tangle = Band(ends, 0, deeds), Tangle(ends, deeds)
            self.assertIs(band == tangle, False)
            self.assertIs(tangle == band, False)
            self.assertNotIsInstance(band, Tangle)
            self.assertNotIsInstance(tangle, Band)
            for call in (regions_of, pulled):
                self.refused(BadTangle, "tangle", call, band)
            self.refused(BadTangle, "tangle", through, band, 5)
            self.refused(BadTangle, "tangle", turned, band, 0)
            self.refused(BadTangle, "tangle", put_ahead, CURL, band)
            self.refused(BadTangle, "band", passing, tangle, 5)


class TestText(Refusals):

    def test_written_and_read(self):
        for ends, inner, deeds in some_bands(261):
            band = Band(ends, inner, deeds)
            wanted = [f"ends {ends} inner {inner}"] + [f"{word} {gap}" for word, gap in deeds]
            self.assertEqual(str(band), "\n".join(wanted))
            told = Band.read(text=str(band))
            self.assertIs(type(told), Band)
            self.assertEqual((told.ends, told.inner, told.deeds), (ends, inner, tuple(deeds)))

    def test_no_strings(self):
        for value in NO_STRINGS:
            self.misread(0, 0, Band.read, value)

    def test_line_0(self):
        odd = [str(number) for number in (-2, -1, 1, 3, 15, 17, 18, 24, 10 ** 59)]
        for bad in (*odd, *NO_WRITTEN):
            self.misread(0, 1, Band.read, f"ends {bad} inner 0")
            self.misread(0, 3, Band.read, f"ends 0 inner {bad}")
            self.misread(0, 3, Band.read, f"ends 2 inner {bad}\njoin 1")
        for text, item in (("", 0), ("\n", 0), ("end 0 inner 0", 0), ("ends", 1), ("ends 0", 2), ("ends 0\n", 2),
                           ("ends 0 Inner 0", 2), ("ends 0 0", 2), ("ends 0 inner", 3), ("ends 0 inner ", 3),
                           ("ends 0 inner 0 0", 4), ("ends 0 inner 0 ", 4), (" ends 0 inner 0", 0),
                           ("ends 0  inner 0", 2), ("inner 0 ends 0", 0)):
            self.misread(0, item, Band.read, text)

    def test_item_by_item(self):
        def wrong(line, at):
            if line == 0:
                return ("end", "", "join", "0") if at in (0, 2) else ("1", "17", "18", *NO_WRITTEN)
            return ("", "Over", "crossing", "0", "join1") if at == 0 else ("24", "-1", "10", *NO_WRITTEN)

        for text in ("ends 2 inner 0\njoin 1", "ends 4 inner 4\nover 3\nunder 0\nturn 2\njoin 2\nopen 1",
                     "ends 0 inner 2\nopen 0"):
            self.misread_item_by_item(Band.read, text, wrong)

    def test_each_deed_on_each_ring(self):
        for ends in range(0, 17, 2):
            for word in WORDS:
                behind = told_ends(word, ends)
                fitting = told_gaps(word, ends)
                for gap in range(-1, 26):
                    inner = max(min(behind, 16), 0)
                    text = "\n".join([f"ends {ends} inner {inner}", f"{word} {gap}"] + ["join 1"] * (behind > 16))
                    if not fitting:
                        self.misread(1, 0, Band.read, text)
                    elif gap not in fitting:
                        self.misread(1, 1, Band.read, text)
                    else:
                        self.assertEqual(str(Band.read(text)), text)
        text = "ends 16 inner 16" + "\nopen 0" * 4
        self.misread(5, 0, Band.read, text + "\nopen 0")
        self.misread(5, 0, Band.read, text)

    def test_lines_missing(self):
        # As long as the ring has other ends than the inner ones a line is missing; a deed may stand behind any.
        for ends, inner in itertools.product(EVEN, repeat=2):
            lines = [f"ends {ends} inner {inner}"]
            lines += ["open 0"] * ((inner - ends) // 2) + ["join 1"] * ((ends - inner) // 2)
            for many in range(1, len(lines)):
                self.misread(many, 0, Band.read, "\n".join(lines[:many]))
            self.assertEqual(str(Band.read("\n".join(lines))), "\n".join(lines))
            self.misread(len(lines), 0, Band.read, "\n".join(lines + [""]))
            self.misread(len(lines) + 1, 0, Band.read, "\n".join(lines + ["open 0"]))
            if inner:
                self.assertEqual(len(Band.read("\n".join(lines + ["over 0"])).deeds), len(lines))

    def test_four_thousand_deeds(self):
        text = "\n".join(["ends 2 inner 4"] + ["over 0"] * 3999 + ["open 1"])
        self.assertEqual(str(Band.read(text)), text)
        for more in ("open 0", "", "x", "over 0", "open"):
            self.misread(4001, 0, Band.read, text + "\n" + more)
        text = "\n".join(["ends 2 inner 4"] + ["over 0"] * 4000)
        self.misread(4001, 0, Band.read, text)
        self.misread(4001, 0, Band.read, text + "\nopen 1")
        self.misread(4000, 1, Band.read, text[:-1] + "2\nopen 1")

    def test_texts_of_tangles(self):
        self.misread(0, 2, Band.read, "ends 2\njoin 1")
        self.misread(0, 2, Tangle.read, "ends 2 inner 0\njoin 1")


class TestPutTogether(Refusals):

    def test_idle(self):
        for ends in EVEN:
            told = idle(ends=ends)
            self.assertIs(type(told), Band)
            self.assertEqual((told.ends, told.inner, told.deeds), (ends, ends, ()))
        for value in (-2, -1, 1, 3, 15, 17, 18, 10 ** 30, *NO_INTEGERS):
            self.refused(BadNumber, "ends", idle, value)

    def test_put_ahead(self):
        source = random.Random(262)
        for ends, inner, deeds in some_bands(263):
            band, tangle = Band(ends, inner, deeds), Tangle(inner, some_deeds(inner, 8, source))
            told = put_ahead(band, tangle)
            self.assertIs(type(told), Tangle)
            self.assertEqual((told.ends, told.deeds), (ends, band.deeds + tangle.deeds))
            self.assertEqual(put_ahead(idle(inner), tangle), tangle)
            self.assertEqual(put_ahead(tangle=tangle, band=band), told)

    def test_chained(self):
        source = random.Random(264)
        for ends, inner, deeds in some_bands(265):
            last = source.choice(EVEN)
            one, other = Band(ends, inner, deeds), Band(inner, last, some_band_deeds(inner, last, 5, source))
            told = chained(one, other)
            self.assertIs(type(told), Band)
            self.assertEqual((told.ends, told.inner, told.deeds), (ends, last, one.deeds + other.deeds))
            self.assertEqual(chained(other=other, one=one), told)
            self.assertEqual([chained(idle(ends), one), chained(one, idle(inner))], [one, one])
            tangle = Tangle(last, some_deeds(last, 4, source))
            self.assertEqual(put_ahead(told, tangle), put_ahead(one, put_ahead(other, tangle)))

    def test_4000_deeds_together_and_one_more(self):
        turns = [("turn", 0)]
        for many in (0, 1, 2000, 3999):
            one = Band(2, 2, turns * many)
            tangle, band = Tangle(2, turns * (3999 - many) + [JOIN]), Band(2, 2, turns * (4000 - many))
            self.assertEqual(len(put_ahead(one, tangle).deeds), 4000)
            self.assertEqual(len(chained(one, band).deeds), 4000)
            more = Band(2, 2, turns * (many + 1))
            self.too_many("deeds", 4000, put_ahead, more, tangle)
            self.too_many("deeds", 4000, chained, more, band)
        most = Band(2, 2, turns * 4000)
        self.refused(Misfit, "tangle", put_ahead, most, Tangle(0, []))
        self.refused(Misfit, "other", chained, most, Band(4, 2, turns * 3999 + [JOIN]))

    def test_refusals(self):
        for value in NO_BANDS:
            self.refused(BadTangle, "band", put_ahead, value, ARC)
            self.refused(BadTangle, "one", chained, value, CURL)
            self.refused(BadTangle, "other", chained, CURL, value)
        for value in NO_TANGLES:
            self.refused(BadTangle, "tangle", put_ahead, CURL, value)
        for ends in (0, 4, 16):
            self.refused(Misfit, "tangle", put_ahead, CURL, Tangle(ends, [JOIN] * (ends // 2)))
            self.refused(Misfit, "other", chained, CURL, idle(ends))
        self.refused(BadTangle, "band", put_ahead, None, None)
        self.refused(BadTangle, "band", put_ahead, tangle=None, band=ARC)
        self.refused(BadTangle, "tangle", put_ahead, CURL, CURL)
        self.refused(BadTangle, "one", chained, ARC, None)
        self.refused(BadTangle, "other", chained, other=ARC, one=CURL)


class TestPassing(Refusals):

    def test_each_marks_tried(self):
        source = random.Random(266)
        tried = 0
        while tried < 60:
            ends, inner = source.choice((0, 2, 4, 6)), source.choice((0, 2, 4, 6))
            deeds = some_band_deeds(ends, inner, source.randrange(5), source, 6)
            rings, crossings = told_floor(ends, deeds)
            regions = 1 + max(max(ring) for ring in rings)
            if regions > 7:
                continue
            found = set()
            for marks in itertools.product(range(3), repeat=regions):
                if all(told_kept(3, crossing, marks) for crossing in crossings):
                    found.add(tuple(marks[region] for region in rings[0] + rings[-1]))
            self.assertEqual(set(rows_in(passing(Band(ends, inner, deeds), 3))), found)
            tried += 1

    def test_as_markings_show(self):
        for ends, inner, deeds in itertools.chain(some_bands(267), some_bands(268, 6)):
            band = Band(ends, inner, deeds)
            for clock in (3, 11, 31):
                told = passing(band=band, clock=clock)
                self.assertIs(type(told), Space)
                self.assertEqual((told.clock, told.size), (clock, gaps(ends) + gaps(inner)))
                self.assertEqual(told, told_passing(clock, ends, deeds))

    def test_idle(self):
        for clock in (3, 31):
            for ends in EVEN:
                units = [tuple(int(at == gap) for at in range(gaps(ends))) for gap in range(gaps(ends))]
                self.assertEqual(passing(idle(ends), clock).rows, tuple(unit + unit for unit in units))

    def test_to_a_ring_without_ends(self):
        # The rim's part is what the tangle of these deeds lets through.
        source = random.Random(269)
        for ends in EVEN:
            deeds = some_deeds(ends, 10, source)
            told = passing(Band(ends, 0, deeds), 5)
            rim = Space(5, gaps(ends), [row[:-1] for row in told.rows])
            self.assertEqual(rim, through(Tangle(ends, deeds), 5))

    def test_swings(self):
        for ends, inner, deeds in some_bands(270, 8, (3, 8, 15, 25)):
            rows = passing(Band(ends, inner, deeds), 7).rows
            for one, other in itertools.combinations(rows, 2):
                at_rim, within = [0 if size == 0 else told_swing(7, one[begin:begin + size], other[begin:begin + size])
                                  for begin, size in ((0, ends), (gaps(ends), inner))]
                self.assertEqual(at_rim, within)

    def test_chained(self):
        # A row passes with another one if both pass with some row between them.
        source = random.Random(271)
        for _ in range(60):
            ends, inner, last = [source.choice((0, 2, 4)) for _ in range(3)]
            one = Band(ends, inner, some_band_deeds(ends, inner, 4, source, 6))
            other = Band(inner, last, some_band_deeds(inner, last, 4, source, 6))
            between = {}
            for row in rows_in(passing(other, 3)):
                between.setdefault(row[:gaps(inner)], []).append(row[gaps(inner):])
            wanted = {row[:gaps(ends)] + rest for row in rows_in(passing(one, 3))
                      for rest in between.get(row[gaps(ends):], [])}
            self.assertEqual(set(rows_in(passing(chained(one, other), 3))), wanted)

    def test_refusals(self):
        for value in NO_BANDS:
            self.refused(BadTangle, "band", passing, value, 5)
        for value in NO_CLOCKS:
            self.refused(BadClock, "clock", passing, CURL, value)
        self.refused(BadTangle, "band", passing, None, None)
        self.refused(BadTangle, "band", passing, clock=4, band=ARC)


class TestLetIn(Refusals):

    def test_beside_which_some_row_passes(self):
        source = random.Random(272)
        for _ in range(80):
            ends, inner = source.choice((0, 2, 4)), source.choice((0, 2, 4))
            band = Band(ends, inner, some_band_deeds(ends, inner, source.randrange(6), source, 6))
            space = some_space(3, gaps(inner), source)
            told = let_in(band=band, space=space)
            self.assertIs(type(told), Space)
            self.assertEqual((told.clock, told.size), (3, gaps(ends)))
            wanted = {row[:gaps(ends)] for row in rows_in(passing(band, 3)) if holds(space, row[gaps(ends):])}
            self.assertEqual(set(rows_in(told)), wanted)

    def test_no_rows_and_all_rows(self):
        for ends, inner, deeds in some_bands(273):
            band = Band(ends, inner, deeds)
            passed = passing(band, 5)
            alone = [row[:gaps(ends)] for row in passed.rows]
            units = [[int(at == lead) for at in range(gaps(inner))] for lead in range(gaps(inner))]
            self.assertEqual(let_in(band, Space(5, gaps(inner), units)), Space(5, gaps(ends), alone))
            # From the row of 0s what passes with it is let in.
            calm = Space(5, gaps(inner), [])
            self.assertEqual(let_in(band, calm), let_in_by(passed, calm, gaps(ends)))

    def test_put_ahead_of_tangles(self):
        source = random.Random(274)
        for ends, inner, deeds in itertools.chain(some_bands(275), some_bands(276, 6)):
            band, tangle = Band(ends, inner, deeds), Tangle(inner, some_deeds(inner, 8, source))
            for clock in (3, 13):
                told = let_in(band, through(tangle, clock))
                self.assertEqual(told, through(put_ahead(band, tangle), clock))

    def test_fair_stays_fair(self):
        source = random.Random(277)
        for ends, inner, deeds in some_bands(278):
            band = Band(ends, inner, deeds)
            space = fair_spaces(5, inner)[0] if inner < 4 else some_fair(5, inner, source)
            self.assertIs(is_fair(let_in(band, space)), True)

    def test_chained(self):
        source = random.Random(279)
        for ends, inner, deeds in some_bands(280, 6, (1, 3, 8)):
            last = source.choice((0, 2, 4, 16))
            one, other = Band(ends, inner, deeds), Band(inner, last, some_band_deeds(inner, last, 3, source, 18))
            space = some_space(7, gaps(last), source)
            self.assertEqual(let_in(chained(one, other), space), let_in(one, let_in(other, space)))

    def test_refusals(self):
        for value in NO_BANDS:
            self.refused(BadTangle, "band", let_in, value, Space(3, 2, []))
        for value in NO_SPACES:
            self.refused(BadSpace, "space", let_in, CURL, value)
        for inner in EVEN:
            for size in range(1, 30):
                if size != gaps(inner):
                    self.refused(Misfit, "space", let_in, idle(inner), Space(3, size, []))
        self.refused(BadTangle, "band", let_in, ARC, None)
        self.refused(BadTangle, "band", let_in, space=None, band=None)
        self.refused(BadSpace, "space", let_in, idle(0), through)


class TestTheGreatest(Soon, Refusals):

    def test_rings_of_at_most_four_ends(self):
        source = random.Random(281)
        for clock in (3, 31):
            for ends, inner in itertools.product((0, 2, 4), repeat=2):
                deeds = some_band_deeds(ends, inner, 3990, source, 4)
                with self.soon():
                    band = Band(ends, inner, deeds)
                    told = passing(band, clock)
                    self.assertEqual(Band.read(str(band)), band)
                space = some_space(clock, gaps(inner), source)
                with self.soon():
                    inside = let_in(band, space)
                self.assertEqual(inside, let_in_by(told, space, gaps(ends)))

    def test_rings_to_18_ends(self):
        source = random.Random(282)
        for clock in (3, 31):
            for ends, inner in ((16, 16), (0, 16), (16, 0), (8, 12)):
                deeds = some_band_deeds(ends, inner, 590, source, 18)
                band = Band(ends, inner, deeds)
                with self.soon():
                    told = passing(band, clock)
                    through_all = let_in(band, some_fair(clock, inner, source) if inner else Space(clock, 1, [(1,)]))
                self.assertIs(is_fair(through_all), True)
                if clock == 3 and 1 + max(max(ring) for ring in told_floor(ends, deeds)[0]) <= 400:
                    self.assertEqual(told, told_passing(clock, ends, deeds))

    def test_rings_of_24_ends(self):
        deeds = greatest_deeds()[:-12]
        band = Band(0, 16, deeds + [JOIN] * 4)
        self.assertEqual(Band.read(str(band)), band)
        self.assertEqual(passing(band, 31).size, 17)


if __name__ == "__main__":
    unittest.main()
