"""Promises 2, 4 to 12 and 14: what the lines of a desk keep, what they answer, and which errors come first."""

import random
import unittest

from ropesays.closings import closed
from ropesays.desk import Desk
from ropesays.errors import (
    BadClock, BadNumber, BadRow, BadText, Misfit, NoName, Nothing, RopeError, TooMany, Twice)
from ropesays.fairs import fair_count, is_fair
from ropesays.fewest import fewest_sets
from ropesays.moves import pulled
from ropesays.pictures import picture
from ropesays.rims import beside, is_chess
from ropesays.roped import black_space, equations_of, fair_of, rope_of, white_space
from ropesays.ropes import loops_of, ropes_of
from ropesays.spaces import Space, holds
from ropesays.systems import System, answers, system_of
from ropesays.tangles import Tangle, turned
from ropesays.through import free_depth, through
from ropesays.tied import tied
from tests.desks import KEPT, KINDS
from tests.fills import tangle_of_regions
from tests.knots import many_deeds, some_deeds
from tests.odd import CLOCKS, NO_CLOCKS, NO_INTEGERS, NO_LISTS
from tests.refusals import NO_STRINGS, Refusals
from tests.soon import Soon
from tests.test_roped import some_space

CURL = "tangle curl 4 / over 1 / join 1 / join 1"


def told_desk(clock, *lines):
    desk = Desk(clock)
    for line in lines:
        desk.tell(line)
    return desk


def tangle_line(name, tangle):
    return " / ".join([f"tangle {name} {tangle.ends}"] + [f"{word} {gap}" for word, gap in tangle.deeds])


def space_line(name, space):
    rows = space.rows or [[0] * space.size]
    return f"space {name} " + " / ".join(" ".join(map(str, row)) for row in rows)


class Desks(Soon, Refusals):

    def unchanged(self, desk):
        """All that a desk tells of itself."""
        return desk.clock, desk.log, desk.tell("names"), [str(desk.kept(name)) for name in desk.tell("names").split(" ")
                                                          if name != "-"]

    def refuses(self, desk, kind, line, **fields):
        """A line raises just this error, with these fields, and changes nothing."""
        ahead = self.unchanged(desk)
        error = self.raised(kind, desk.tell, line)
        self.assertEqual(vars(error), fields, line)
        self.assertEqual(self.unchanged(desk), ahead)


class TestExamples(Desks):

    def test_all(self):
        desk = Desk(7)
        lines = ("system sum x y z / z = 2 x + 3 y", "answers all sum", "fair both all", "isfair both", "rope box sum")
        self.assertEqual([desk.tell(line) for line in lines],
                         ["system 3 1", "space 3 2", "space 8 5", "yes", "tangle 8"])
        lines = ("row box 0 0 1 0 1 0 5 0", "row box 0 0 1 0 1 0 4 0", "said box a b c", "text sum")
        self.assertEqual([desk.tell(line) for line in lines],
                         ["through", "barred", "a + 5 b + 3 c = 0", "clock 7 / names x y z / 5 x + 4 y + z = 0"])
        lines = ("tangle curl 4 / over 1 / join 1 / join 1", "through low curl", "text low", "holds low 3 1 3 0",
                 "free curl", "ropes curl", "loops curl")
        self.assertEqual([desk.tell(line) for line in lines],
                         ["tangle 4", "space 4 3", "clock 7 size 4 / 1 0 1 0 / 0 1 0 0 / 0 0 0 1", "yes", "0",
                          "0 1 / 2 3", "0"])
        lines = ("pull flat curl", "same flat curl", "text flat", "led 1 0 2 0", "fewest 1 0 2 0", "led 1 2 1 2",
                 "count 6")
        self.assertEqual([desk.tell(line) for line in lines],
                         ["tangle 4", "yes", "ends 4 / join 1 / join 1", "yes", "0", "no", "400"])
        told = [desk.tell("undo"), desk.tell("names"), desk.tell("again"),
                desk.kept("flat") == pulled(desk.kept("curl")), len(desk.log)]
        self.assertEqual(told, ["pull flat curl", "all both box curl low sum", "tangle 4", True, 7])
        self.misread(0, 6, desk.tell, "space new 1 2 / 3")
        self.refused(Misfit, "deeds", desk.tell, "tangle new 4 / over 1 / join 3")
        self.refused(Misfit, "space", desk.tell, "tie knot all")
        self.refused(Misfit, "tangle", desk.tell, "free low")


class TestDesk(Desks):

    def test_a_new_one(self):
        for clock in CLOCKS:
            for desk in (Desk(clock), Desk(clock=clock)):
                self.assertEqual((desk.clock, desk.log), (clock, ()))
                self.assertEqual([desk.tell("log"), desk.tell(line="names")], ["-", "-"])
        for value in NO_CLOCKS:
            self.refused(BadClock, "clock", Desk, value)

    def test_kept(self):
        desk = told_desk(5, "space a 1 0", "system b x", "tangle c 0")
        self.assertEqual([desk.kept("a"), desk.kept(name="b"), desk.kept("c")],
                         [Space(5, 2, [(1, 0)]), System(5, ["x"], []), Tangle(0, [])])
        self.assertEqual([type(desk.kept(name)) for name in "abc"], [Space, System, Tangle])
        for value in ("", "d", "A", "a ", "ab", "log", b"a", ("a",), ["a"], desk, *NO_INTEGERS, *NO_LISTS, *NO_STRINGS):
            error = self.raised(NoName, desk.kept, value)
            self.assertIs(error.value, value)
        desk.tell("drop a")
        self.assertEqual(self.raised(NoName, desk.kept, "a").value, "a")

    def test_the_log(self):
        desk = Desk(3)
        lines = ("space a 1 2", "system b x / x = 0", "beside c a", "drop a", "space a 1", "drop b")
        for at, line in enumerate(lines):
            log = desk.log
            self.assertIs(type(log), tuple)
            desk.tell(line)
            self.assertEqual((log, desk.log), (lines[:at], lines[:at + 1]))
            self.assertEqual(desk.tell("log"), " / ".join(lines[:at + 1]))
        self.assertEqual(desk.tell("names"), "a c")

    def test_names_ascending(self):
        desk = Desk(3)
        names = ["b", "a1", "a", "z9", "a10", "ab", "zz", "a2", "m"]
        for name in names:
            desk.tell(f"space {name} 1")
        self.assertEqual(desk.tell("names"), " ".join(sorted(names)))

    def test_two_desks(self):
        one, other = Desk(3), Desk(5)
        one.tell("space a 1")
        self.assertEqual([other.tell("names"), other.log, one.tell("names")], ["-", (), "a"])


class TestWhatIsKept(Desks):

    def keeps(self, desk, line, value):
        """A line keeps a value, and its answer tells of it."""
        if isinstance(value, Space):
            answer = f"space {value.size} {value.depth}"
        elif isinstance(value, System):
            answer = f"system {len(value.names)} {len(value.rows)}"
        else:
            answer = f"tangle {value.ends}"
        self.assertEqual(desk.tell(line), answer, line)
        name = line.split(" ")[1]
        told = desk.kept(name)
        self.assertIs(type(told), type(value))
        self.assertEqual(told, value)
        self.assertEqual((desk.log[-1], desk.tell("text " + name)), (line, " / ".join(str(value).split("\n"))))

    def test_spaces(self):
        source = random.Random(310)
        for clock in CLOCKS:
            desk = Desk(clock)
            for size in range(1, 17):
                for many in (1, 2, 20):
                    rows = [[source.randrange(clock) for _ in range(size)] for _ in range(many)]
                    line = f"space a{size}x{many} " + " / ".join(" ".join(map(str, row)) for row in rows)
                    self.keeps(desk, line, Space(clock, size, rows))
        self.keeps(Desk(3), "space a 0 0 / 0 0", Space(3, 2, []))

    def test_systems(self):
        desk = Desk(7)
        for at, (names, equations) in enumerate((
                ("x", []), ("a b c d e f g", []), ("x y", ["x = y"]),
                ("x y z", ["z = 2 x + 3 y", "0 = 0", "- x = 999 z"]),
                ("abcdefgh", ["abcdefgh + abcdefgh = 0 abcdefgh"] * 20), ("x", ["0 = 0"]))):
            text = "\n".join(["clock 7", "names " + names] + equations)
            self.keeps(desk, " / ".join([f"system s{at} {names}"] + equations), system_of(text))

    def test_tangles(self):
        desk = Desk(3)
        for at, (ends, deeds) in enumerate(many_deeds(311)):
            self.keeps(desk, tangle_line(f"t{at}", Tangle(ends, deeds)), Tangle(ends, deeds))

    def test_made_of_systems(self):
        desk = told_desk(5, "system s x y / x = 2 y", "system t a b c / a + b + c = 0 / a = c")
        for name in "st":
            system = desk.kept(name)
            self.keeps(desk, f"answers {name}1 {name}", answers(system))
            self.keeps(desk, f"fair {name}2 {name}1", fair_of(answers(system)))
            self.keeps(desk, f"rope {name}3 {name}", rope_of(system))

    def test_made_of_spaces(self):
        desk = told_desk(5, "space a 1 2 3 4", "space b 1 0 0 0 / 0 1 0 0", "space c 1 1", "space d 4 1 2 3 2 1")
        for name in "abcd":
            space = desk.kept(name)
            self.keeps(desk, f"beside {name}1 {name}", beside(space))
            self.keeps(desk, f"fair {name}2 {name}", fair_of(space))
            self.keeps(desk, f"tie {name}3 {name}2", tied(fair_of(space)))
            for call, word in ((white_space, "whites"), (black_space, "blacks")):
                self.keeps(desk, f"{word} {name}{word} {name}2", call(fair_of(space)))
                if space.size > 2:
                    self.keeps(desk, f"{word} x{name}{word} {name}", call(space))

    def test_made_of_tangles(self):
        source = random.Random(312)
        for clock in (3, 31):
            for ends in range(0, 17, 2):
                one, other = [Tangle(ends, some_deeds(ends, 10, source)) for _ in range(2)]
                desk = told_desk(clock, tangle_line("one", one), tangle_line("other", other))
                self.keeps(desk, "through a one", through(one, clock))
                self.keeps(desk, "pull b one", pulled(one))
                self.keeps(desk, "closed c one other", closed(one, other))
                self.keeps(desk, "closed d other one", closed(other, one))
                self.keeps(desk, "closed e one one", closed(one, one))
                for gap in range(max(ends, 1)):
                    self.keeps(desk, f"turned f{gap} one {gap}", turned(one, gap))

    def test_drop(self):
        desk = told_desk(5, "space a 1", "tangle b 0")
        self.assertEqual(desk.tell("drop a"), "a")
        self.assertEqual([desk.tell("names"), desk.log[-1]], ["b", "drop a"])
        self.refuses(desk, NoName, "drop a", value="a")
        self.keeps(desk, "system a x", System(5, ["x"], []))
        self.assertEqual([desk.tell("drop b"), desk.tell("drop a"), desk.tell("names")], ["b", "a", "-"])

    def test_what_others_are_made_of_may_go(self):
        desk = told_desk(5, "space a 1 2", "fair b a", "tie c b", "drop a", "drop b")
        self.assertEqual(desk.tell("names"), "c")
        self.assertEqual(through(desk.kept("c"), 5), fair_of(Space(5, 2, [(1, 2)])))


class TestAnswers(Desks):

    def test_of_spaces(self):
        source = random.Random(313)
        for clock in (3, 31):
            for size in range(1, 17):
                space = some_space(clock, size, source, size // 2 + 1)
                desk = told_desk(clock, space_line("a", space))
                rows = [*space.rows, [0] * size] + [[source.choice((0, 1)) for _ in range(size)]
                                                             for _ in range(3)]
                for row in rows:
                    wanted = "yes" if holds(space, row) else "no"
                    self.assertEqual(desk.tell("holds a " + " ".join(map(str, row))), wanted)
                if size == 1 or size % 2 == 0:
                    self.assertEqual(desk.tell("isfair a"), "yes" if is_fair(space) else "no")
        desk = told_desk(5, "space a 1 0 1 0 / 0 1 0 0 / 0 0 0 1", "space b 1 0 1 0", "space c 0")
        self.assertEqual([desk.tell("isfair " + name) for name in "abc"], ["yes", "no", "no"])

    def test_of_tangles(self):
        source = random.Random(314)
        words = []
        for ends, deeds in many_deeds(315, 8):
            tangle = Tangle(ends, deeds)
            desk = told_desk(5, tangle_line("a", tangle))
            space = through(tangle, 5)
            for row in (space.rows[-1], [1] * space.size, [source.randrange(5) for _ in range(space.size)]):
                words.append(desk.tell("row a " + " ".join(map(str, row))))
                self.assertEqual(words[-1], "through" if holds(space, row) else "barred")
            self.assertEqual(desk.tell("free a"), str(free_depth(tangle, 5)))
            self.assertEqual(desk.tell("loops a"), str(loops_of(tangle)))
            wanted = " / ".join(f"{one} {other}" for one, other in ropes_of(tangle)) or "-"
            self.assertEqual(desk.tell("ropes a"), wanted)
            self.assertEqual(desk.tell("picture a"), " / ".join(picture(tangle)))
            self.assertEqual(desk.tell("text a"), " / ".join(str(tangle).split("\n")))
            if ends > 2:
                names = "abcdefg"[:ends // 2 - 1]
                told = str(equations_of(tangle, 5, list(names))).split("\n")[2:]
                self.assertEqual(desk.tell("said a " + " ".join(names)), " / ".join(told) or "-")
        self.assertGreater(min(words.count("through"), words.count("barred")), 20)

    def test_same(self):
        source = random.Random(316)
        told = {"yes": 0, "no": 0}
        for _ in range(60):
            ends = source.choice((0, 2, 4, 4, 4, 6))
            one, other = [Tangle(ends, some_deeds(ends, 3, source)) for _ in range(2)]
            desk = told_desk(3, tangle_line("one", one), tangle_line("other", other))
            wanted = "yes" if through(one, 3) == through(other, 3) else "no"
            self.assertEqual([desk.tell("same one other"), desk.tell("same other one")], [wanted] * 2)
            self.assertEqual(desk.tell("same one one"), "yes")
            told[wanted] += 1
        self.assertGreater(min(told.values()), 5)

    def test_of_rows(self):
        source = random.Random(317)
        desk = Desk(5)
        for _ in range(100):
            row = [source.choice((0, 1, 2)) for _ in range(source.choice((2, 4)))]
            if source.random() < 0.4:
                row[2:] = row[:2]
            line = " ".join(map(str, row))
            sets = fewest_sets(5, row)
            self.assertEqual(desk.tell("led " + line), "no" if is_chess(5, row) else "yes")
            self.assertEqual(desk.tell("fewest " + line), "none" if sets is None else str(sets))
        self.assertEqual(desk.tell("led 0 1 0 1 0 1 0 1 0 1 0 1 0 1 0 1"), "no")
        self.assertEqual(desk.tell("led 0 1 0 1 0 2 0 1 0 1 0 1 0 3 0 1"), "yes")

    def test_counts(self):
        for clock in CLOCKS:
            for ends in range(0, 17, 2):
                self.assertEqual(Desk(clock).tell(f"count {ends}"), str(fair_count(clock, ends)))

    def test_none_of_something(self):
        desk = told_desk(5, "tangle a 0", "tangle b 4 / turn 1 / join 1 / join 1")
        self.assertEqual([desk.tell("ropes a"), desk.tell("loops a"), desk.tell("said b x"), desk.tell("picture a")],
                         ["-", "0", "-", "rim 0"])
        self.assertEqual([desk.tell("ropes b"), desk.tell("text a")], ["0 3 / 1 2", "ends 0"])

    def test_more_regions_than_markings_are_told_for(self):
        twist = tangle_line("a", Tangle(*tangle_of_regions(4, 401)))
        desk = told_desk(3, twist)
        self.refuses(desk, TooMany, "free a", what="regions", most=400)
        self.assertEqual([desk.tell("row a 0 1 0 2"), desk.tell("row a 0 1 2 2")], ["through", "barred"])
        self.assertEqual([desk.tell("same a a"), desk.tell("loops a"), desk.tell("pull b a")], ["yes", "0", "tangle 4"])

    def test_asking_changes_nothing(self):
        desk = told_desk(5, "space a 1 0", "system b x / x = 0", CURL, "fair f a")
        ahead = self.unchanged(desk)
        for line in ("log", "names", "holds a 1 0", "isfair a", "row curl 0 0 0 0", "same curl curl", "free curl",
                     "loops curl", "ropes curl", "said curl x", "led 0 1", "fewest 0 1", "count 4", "picture curl",
                     "text a", "text b", "text curl", "isfair f"):
            self.assertEqual(desk.tell(line), desk.tell(line))
            self.assertEqual(self.unchanged(desk), ahead)


class TestErrors(Desks):

    def setUp(self):
        self.desk = told_desk(5, "space a 1 2 3", "system b x / x = 0", CURL, "tangle arc 2 / join 1",
                              "space f 1 0 / 0 1")

    def test_twice(self):
        for name in ("a", "b", "curl"):
            for word, kinds in KINDS.items():
                if word in KEPT and word != "drop":
                    rest = [{"rows": "1", "equations": "x", "deeds": "2", "gap": "9", "name": "none"}[kind]
                            for kind in kinds[1:]]
                    self.refuses(self.desk, Twice, " ".join([word, name, *rest]), value=name)
        self.refuses(self.desk, Twice, "tangle arc 4 / join 3", value="arc")
        self.refuses(self.desk, Twice, "fair a a", value="a")

    def test_no_name(self):
        for word, kinds in KINDS.items():
            made = word in KEPT and word != "drop"
            names = [at for at, kind in enumerate(kinds) if kind == "name" and (at > 0 or not made)]
            for at in names:
                wanted = {"name": "a", "gap": "9", "row": "1 1", "unknowns": "x"}
                items = [word] + [wanted.get(kind) for kind in kinds]
                if names[0] > 0:
                    items[1] = "new"
                items[1 + at] = "none"
                # The first name by which nothing is kept, ahead of those by which something else is kept.
                for later in names:
                    if later > at:
                        self.refuses(self.desk, NoName, " ".join(items), value="none")
                        items[1 + later] = "never"
                self.refuses(self.desk, NoName, " ".join(items), value="none")
        self.refuses(self.desk, NoName, "closed new none never", value="none")
        self.refuses(self.desk, NoName, "closed new a never", value="never")
        self.refuses(self.desk, NoName, "same b none", value="none")
        self.refuses(self.desk, NoName, "fair new new", value="new")
        self.refuses(self.desk, NoName, "turned new none 15", value="none")
        self.refuses(self.desk, NoName, "holds none 0", value="none")

    def test_other_kinds(self):
        wanted = {"answers": "system", "rope": "system", "holds": "space", "isfair": "space", "fair": "space",
                  "beside": "space", "whites": "space", "blacks": "space", "tie": "space"}
        kept = {"space": "a", "system": "b", "tangle": "curl"}
        for word, kinds in KINDS.items():
            if word in ("drop", "text", "space", "system", "tangle") or "name" not in kinds:
                continue
            kind = wanted.get(word, "tangle")
            head = [word, "new"] if word in KEPT else [word]
            count = kinds.count("name") - (word in KEPT)
            tail = {"row": "1", "gap": "15", "unknowns": "x"}.get(kinds[-1])
            for other, name in kept.items():
                for at in range(count):
                    names = [kept[kind]] * count
                    names[at] = name
                    line = " ".join(head + names + ([tail] if tail else []))
                    if other != kind:
                        self.refuses(self.desk, Misfit, line, part=kind)
        self.refuses(self.desk, Misfit, "closed new a b", part="tangle")

    def test_nothing(self):
        desk = Desk(5)
        for line in ("undo", "again"):
            self.refuses(desk, Nothing, line)
        desk.tell("space a 1")
        self.refuses(desk, Nothing, "again")
        desk.tell("undo")
        self.refuses(desk, Nothing, "undo")

    def test_what_functions_raise(self):
        desk = self.desk
        for line, kind, fields in (
                ("tangle new 4 / join 3", Misfit, {"part": "deeds"}), ("tangle new 2", Misfit, {"part": "deeds"}),
                ("tangle new 0" + " / open 0" * 13, TooMany, {"what": "ends", "most": 24}),
                ("fair new big", Misfit, {"part": "space"}), ("beside new a", Misfit, {"part": "space"}),
                ("whites new a", Misfit, {"part": "space"}), ("blacks new f", Misfit, {"part": "space"}),
                ("tie new a", Misfit, {"part": "space"}), ("tie new low", Misfit, {"part": "space"}),
                ("turned new curl 4", BadNumber, {"part": "gap"}), ("turned new arc 15", BadNumber, {"part": "gap"}),
                ("closed new curl arc", Misfit, {"part": "other"}), ("same arc curl", Misfit, {"part": "other"}),
                ("holds a 1 2", BadRow, {"part": "row"}), ("holds a 1 2 3 4", BadRow, {"part": "row"}),
                ("isfair a", Misfit, {"part": "space"}), ("row curl 1 2 3", BadRow, {"part": "row"}),
                ("row arc 1 2 3", BadRow, {"part": "row"}), ("said arc x", Misfit, {"part": "tangle"}),
                ("said arc x y", Misfit, {"part": "tangle"}), ("said curl x y", Misfit, {"part": "names"}),
                ("led 1", BadRow, {"part": "row"}), ("led 1 2 3", BadRow, {"part": "row"}),
                ("fewest 1 2 3", BadRow, {"part": "row"}),
                ("fewest 0 0 0 0 0 0", TooMany, {"what": "rows", "most": 2500})):
            if "big" in line:
                desk.tell("space big 1 1 1 1 1 1 1 1")
            if "low" in line:
                desk.tell("space low 1 0 1 0 / 0 1 0 1")
            self.refuses(desk, kind, line, **fields)

    def test_200_lines_and_one_more(self):
        desk = Desk(3)
        for at in range(100):
            desk.tell(f"space a{at} 1")
            desk.tell("space f 1 1" if at == 0 else f"drop a{at}" if at % 2 else f"beside b{at} f")
        self.assertEqual(len(desk.log), 200)
        # Ahead of all that else comes behind the reading of the line.
        for line in ("space new 1", "space f 1", "drop f", "drop none", "fair new none", "tie new f", "system new x",
                     "tangle new 2", "through new f", "closed f f f"):
            self.refuses(desk, TooMany, line, what="lines", most=200)
        self.misread(0, 2, desk.tell, "space new")
        self.misread(0, 1, desk.tell, "drop")
        # What is not kept is answered, or refused, as ever.
        self.assertEqual([desk.tell("holds f 2 2"), desk.tell("count 4")], ["yes", "4"])
        self.refuses(desk, NoName, "isfair none", value="none")
        self.refuses(desk, Nothing, "again")
        last = desk.log[-1]
        self.assertEqual([desk.tell("undo"), len(desk.log)], [last, 199])
        self.assertEqual([desk.tell("again"), len(desk.log)], ["a99", 200])
        self.refuses(desk, TooMany, "space new 1", what="lines", most=200)
        desk.tell("undo")
        self.assertEqual([desk.tell("space new 1"), len(desk.log)], ["space 1 1", 200])

    def test_all_orders(self):
        desk = self.desk
        # The form of the whole line, then the new name, then names of nothing, then kinds, then what functions raise.
        self.misread(0, 3, desk.tell, "closed a none")
        self.misread(0, 4, desk.tell, "turned a none 5 b")
        self.misread(0, 3, desk.tell, "turned a none 16")
        self.refuses(desk, Twice, "turned a none 9", value="a")
        self.refuses(desk, NoName, "turned new none 9", value="none")
        self.refuses(desk, Misfit, "turned new a 9", part="tangle")
        self.refuses(desk, BadNumber, "turned new curl 9", part="gap")
        self.refuses(desk, NoName, "closed new b none", value="none")
        self.refuses(desk, Misfit, "closed new b arc", part="tangle")
        self.refuses(desk, Misfit, "closed new arc curl", part="other")
        self.refuses(desk, Misfit, "holds b 1", part="space")
        self.refuses(desk, BadRow, "holds a 1", part="row")
        self.misread(0, 2, desk.tell, "holds b 5")


class TestTheGreatest(Desks):

    def test_great_tangles(self):
        source = random.Random(318)
        for ends, most in ((4, 4), (2, 4), (0, 4)):
            one, other = [Tangle(ends, some_deeds(ends, 3100, source, most)) for _ in range(2)]
            with self.soon():
                desk = told_desk(31, tangle_line("one", one), tangle_line("other", other), "through a one")
                self.assertEqual(desk.tell("same one other"), "yes" if ends < 4 else desk.tell("same other one"))
                self.assertEqual(len(desk.tell("picture one").split(" / ")), len(one.deeds) + 1)
            self.refuses(desk, TooMany, "closed c one other", what="deeds", most=4000)

    def test_18_ends(self):
        source = random.Random(319)
        one = Tangle(16, some_deeds(16, 590, source, 18))
        with self.soon():
            desk = told_desk(3, tangle_line("one", one), "through a one", "tie two a")
            self.assertEqual([desk.tell("same one two"), desk.tell("isfair a")], ["yes", "yes"])

    def test_seven_names(self):
        names = "abcdefg"
        equations = " / ".join(" + ".join(f"{at + by + 900} {name}" for by, name in enumerate(names)) + " = - a"
                               for at in range(20))
        with self.soon():
            desk = told_desk(3, f"system s {' '.join(names)} / {equations}", "answers a s", "rope r s", "fair f a")
            self.assertEqual(through(desk.kept("r"), 3), desk.kept("f"))


if __name__ == "__main__":
    unittest.main()
