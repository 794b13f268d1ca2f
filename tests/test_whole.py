"""Promises 7, 8 and 10 to 14: equations typed, tied, pulled, closed, told back; by a desk and by the functions."""

import itertools
import random
import unittest

from ropesays.bands import Band, idle, put_ahead
from ropesays.check_rings import shows_ring
from ropesays.check_rows import shows_row
from ropesays.check_same import shows_same
from ropesays.check_tied import shows_tied
from ropesays.closings import closed, closed_depth, depths_of, lead_in
from ropesays.desk import Desk
from ropesays.fairs import is_fair
from ropesays.markings import markings
from ropesays.moves import moved, moves_at, pulled
from ropesays.pictures import filled
from ropesays.regions import regions_of, rim_of
from ropesays.rings import judged_ring
from ropesays.roped import blacks, equations_of, fair_of, is_split, rope_of, whites
from ropesays.rows import judged_row
from ropesays.same import Same, judged_same
from ropesays.scripts import tell_all
from ropesays.spaces import Space, holds, rows_in, upright
from ropesays.systems import System, answers, system_of
from ropesays.tangles import Tangle
from ropesays.through import free_depth, through
from ropesays.tied import tied
from tests.knots import some_deeds
from tests.refusals import Refusals
from tests.soon import Soon

TYPED = (
    (3, ("x", "y"), ("x = y",)),
    (3, ("a", "b", "c"), ("a + b + c = 0", "2 a = b")),
    (5, ("x", "y", "z"), ("z = 2 x + 3 y",)),
    (7, ("x",), ()),
    (7, ("x",), ("3 x = 2 x",)),
    (7, ("u", "v", "w"), ("u - v = v - w", "0 = 0", "2 u + w = 4 v - u")),
    (11, ("one", "two"), ("one = 999 two",)),
    (13, ("a", "b", "c", "d"), ("a + b = c", "c + 5 d = 0", "a + b + 5 d = 0")),
    (31, ("x", "y"), ("7 x = y",)),
)


class TestEquations(Soon, Refusals):

    def test_typed_tied_pulled_closed_told_back(self):
        for clock, names, equations in TYPED:
            system = system_of("\n".join([f"clock {clock}", "names " + " ".join(names), *equations]))
            with self.soon():
                rope = rope_of(system)
            space = fair_of(answers(system))
            self.assertEqual(through(rope, clock), space)
            self.assertEqual([is_fair(space), is_split(space), shows_tied(space, rope)], [True] * 3)
            flat = pulled(rope)
            self.assertEqual(judged_same(rope, flat, clock), Same())
            self.assertIs(shows_same(rope, flat, clock, Same()), True)
            for tangle in (rope, flat):
                back = equations_of(tangle, clock, names)
                self.assertEqual(answers(back), answers(system))
                self.assertEqual(System.read(str(back)), back)
                self.assertEqual(system_of(str(back)), back)
            depth = len(names) + 2
            self.assertEqual(closed_depth(rope, flat, clock), depth + free_depth(rope, clock) + free_depth(flat, clock))

    def test_answers_stand_in_the_white_gaps(self):
        for clock, names, equations in TYPED[:4]:
            system = system_of("\n".join([f"clock {clock}", "names " + " ".join(names), *equations]))
            rope = rope_of(system)
            for row in rows_in(through(rope, clock)) if clock ** (len(names) + 2) <= 2500 else []:
                self.assertIs(holds(answers(system), whites(clock, row)), True)
                self.assertIs(holds(Space(clock, len(names), system.rows), blacks(clock, row)), True)
            for values in itertools.product(range(clock), repeat=len(names)):
                right = all(sum(a * b for a, b in zip(row, values)) % clock == 0 for row in system.rows)
                row = [0, 0]
                for value in values:
                    row += [value, 0]
                told = judged_row(rope, clock, row)
                self.assertIs(bool(told), right)
                self.assertIs(shows_row(rope, clock, row, told), True)
                lines = filled(rope, clock, told.marks)
                self.assertEqual([line for line in lines if "is not" in line], [])
                if right:
                    self.assertEqual(lines[0], "rim " + " ".join(map(str, row)))

    def test_by_a_desk_and_by_the_functions(self):
        for clock, names, equations in TYPED:
            unknowns = " ".join(names)
            lines = [" / ".join([f"system s {unknowns}", *equations]), "answers a s", "fair f a", "rope r s", "tie t f",
                     "pull p r", "closed c r p", "through l r", "through k c", "whites w l", "blacks b l",
                     "turned u r 2", "turned v u 2", "beside g f"]
            desk = Desk(clock)
            for line in lines:
                desk.tell(line)
            system = system_of("\n".join([f"clock {clock}", "names " + unknowns, *equations]))
            space = answers(system)
            rope = rope_of(system)
            self.assertEqual([desk.kept("s"), desk.kept("a"), desk.kept("f"), desk.kept("r"), desk.kept("t")],
                             [system, space, fair_of(space), rope, tied(fair_of(space))])
            self.assertEqual([desk.kept("p"), desk.kept("c")], [pulled(rope), closed(rope, pulled(rope))])
            self.assertEqual([desk.kept("l"), desk.kept("g")], [fair_of(space)] * 2)
            self.assertEqual([desk.kept("w"), desk.kept("b")], [space, upright(space)])
            self.assertEqual(desk.tell("same r p"), "yes")
            told = str(equations_of(rope, clock, list(names))).split("\n")[2:]
            self.assertEqual(desk.tell("said p " + unknowns), " / ".join(told) or "-")
            self.assertEqual(tell_all(clock, lines + ["names"])[-1], "a b c f g k l p r s t u v w")
            self.assertEqual([desk.tell("isfair " + name) for name in "flk"], ["yes"] * 3)

    def test_equations_told_back_make_the_same_rope(self):
        for clock, names, equations in TYPED:
            line = " / ".join(["system s " + " ".join(names), *equations])
            desk = Desk(clock)
            desk.tell(line)
            desk.tell("rope r s")
            said = desk.tell("said r " + " ".join(names))
            desk.tell(" ".join(["system again", *names] + ([] if said == "-" else ["/", said])))
            desk.tell("rope q again")
            self.assertEqual([desk.tell("same r q"), desk.kept("q") == desk.kept("r")], ["yes", True])


class TestTangles(Refusals):

    def test_whatever_is_made_of_a_tangle(self):
        source = random.Random(350)
        for clock in (3, 5):
            for ends in (0, 2, 4, 6, 8):
                tangle = Tangle(ends, some_deeds(ends, 12, source, 10))
                space = through(tangle, clock)
                again = tied(space)
                self.assertEqual(judged_same(tangle, again, clock), Same())
                self.assertEqual(closed_depth(tangle, again, clock), space.depth + free_depth(tangle, clock))
                depth = depths_of(closed(tangle, again))[(3, 5).index(clock)]
                self.assertEqual(depth, closed_depth(tangle, again, clock))
                image = Band(0, ends, lead_in(tangle))
                self.assertEqual(put_ahead(image, again), closed(again, tangle))
                self.assertEqual(put_ahead(idle(ends), tangle), tangle)
                for at in range(len(tangle.deeds)):
                    for word in moves_at(tangle, at):
                        other = moved(tangle, at, word)
                        self.assertEqual(judged_same(tangle, other, clock), Same())
                        self.assertEqual(closed_depth(other, again, clock), closed_depth(tangle, again, clock))

    def test_rows(self):
        source = random.Random(351)
        for ends in (4, 6):
            tangle = Tangle(ends, some_deeds(ends, 8, source, 8))
            desk = Desk(3)
            desk.tell(" / ".join([f"tangle t {ends}"] + [f"{word} {gap}" for word, gap in tangle.deeds]))
            desk.tell("through s t")
            for row in itertools.product(range(3), repeat=ends):
                line = " ".join(map(str, row))
                told = judged_row(tangle, 3, row)
                self.assertIs(shows_row(tangle, 3, row, told), True)
                self.assertEqual(desk.tell("row t " + line), "through" if told else "barred")
                self.assertEqual(desk.tell("holds s " + line), "yes" if told else "no")
                if ends == 4:
                    ring = judged_ring(3, row)
                    self.assertIs(shows_ring(3, row, ring), True)
                    self.assertEqual(desk.tell("led " + line), "yes" if ring else "no")
            self.assertEqual(markings(tangle, 3).depth, desk.kept("s").depth + int(desk.tell("free t")))
            self.assertLessEqual(len(set(rim_of(tangle))), regions_of(tangle))


if __name__ == "__main__":
    unittest.main()
