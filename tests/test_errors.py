"""Promise 2: the errors and their fields."""

import unittest

from ropesays import errors
from ropesays.errors import (
    BadClock, BadLine, BadNumber, BadRow, BadSpace, BadSystem, BadTangle, BadText, BadWord,
    Misfit, NoName, Nothing, RopeError, TooMany, Twice,
)
from ropesays.fairs import fair_spaces
from ropesays.spaces import Space, holds, meeting, rows_in
from ropesays.tangles import Tangle, turned

FIELDS = {
    BadNumber: ("part",), BadClock: ("part",), BadRow: ("part",), BadSpace: ("part",),
    BadTangle: ("part",), BadSystem: ("part",), BadWord: ("part",), Misfit: ("part",),
    NoName: ("value",), Twice: ("value",), TooMany: ("what", "most"), Nothing: (),
    BadText: ("line", "item"), BadLine: ("line", "error"),
}

VALUES = (None, True, 0, -1, 10 ** 40, 1.5, "clock", b"row", [1, [2]], (1, 2), {"a": [1]}, {1}, object(), len)


class TestErrors(unittest.TestCase):

    def test_the_errors_are_just_those_of_the_document(self):
        defined = [value for value in vars(errors).values() if isinstance(value, type)]
        self.assertEqual(set(defined), set(FIELDS) | {RopeError})

    def test_each_one_is_directly_below_rope_error(self):
        self.assertEqual(RopeError.__bases__, (ValueError,))
        for kind in FIELDS:
            self.assertEqual(kind.__bases__, (RopeError,), kind)
            below = (kind, RopeError, ValueError, Exception, BaseException, object)
            self.assertEqual(kind.__mro__, below, kind)

    def test_rope_error_takes_any_values(self):
        for values in ((), VALUES, ("text",), ([1], None)):
            with self.assertRaises(ValueError) as caught:
                raise RopeError(*values)
            self.assertIsInstance(caught.exception, RopeError)

    def test_fields_by_place_and_by_name(self):
        for kind, fields in FIELDS.items():
            for shift in range(len(VALUES)):
                told = {name: VALUES[(shift + at) % len(VALUES)] for at, name in enumerate(fields)}
                for error in (kind(*told.values()), kind(**told)):
                    for name in fields:
                        self.assertIs(getattr(error, name), told[name], (kind, name))

    def test_names_in_any_order(self):
        error = TooMany(most=400, what="spaces")
        self.assertEqual((error.what, error.most), ("spaces", 400))
        error = BadText(item=2, line=1)
        self.assertEqual((error.line, error.item), (1, 2))
        error = BadLine(3, error=Nothing())
        self.assertEqual((error.line, type(error.error)), (3, Nothing))

    def test_a_value_is_kept_as_it_was_passed(self):
        value = ["a", ["b"]]
        self.assertIs(NoName(value).value, value)
        self.assertIsInstance(Twice(value=value).value[1], list)

    def test_each_one_is_made_with_just_its_fields(self):
        for kind, fields in FIELDS.items():
            with self.assertRaises(TypeError):
                kind(*["x"] * (len(fields) + 1))
            with self.assertRaises(TypeError):
                kind(*["x"] * len(fields), strange=1)
            if fields:
                with self.assertRaises(TypeError):
                    kind(*["x"] * (len(fields) - 1))

    def test_each_one_is_raised_and_caught_by_itself(self):
        for kind, fields in FIELDS.items():
            made = kind(*["x"] * len(fields))
            for other in FIELDS:
                self.assertEqual(isinstance(made, other), kind is other)
            with self.assertRaises(kind) as caught:
                raise made
            self.assertIs(caught.exception, made)
            self.assertIsInstance(str(made), str)

    def test_errors_that_calls_raise_keep_their_fields(self):
        plane = Space(31, 3, [(1, 0, 0), (0, 1, 0), (0, 0, 1)])
        for kind, fields, call, told in (
                (BadClock, {"part": "clock"}, Space, (4, 2, [])),
                (BadNumber, {"part": "size"}, Space, (3, 401, [])),
                (BadRow, {"part": "rows"}, Space, (3, 2, [(3, 0)])),
                (BadSpace, {"part": "other"}, meeting, (plane, None)),
                (BadRow, {"part": "row"}, holds, (plane, (0, 0))),
                (Misfit, {"part": "other"}, meeting, (plane, Space(3, 3, []))),
                (TooMany, {"what": "rows", "most": 2500}, rows_in, (plane,)),
                (TooMany, {"what": "spaces", "most": 400}, fair_spaces, (31, 16)),
                (TooMany, {"what": "ends", "most": 24}, Tangle, (0, [("open", 0)] * 13)),
                (BadText, {"line": 1, "item": 0}, Space.read, ("clock 3 size 1\n2",)),
                (BadText, {"line": 0, "item": 0}, Tangle.read, (None,)),
                (BadTangle, {"part": "deeds"}, Tangle, (2, [("join",)])),
                (BadTangle, {"part": "tangle"}, turned, (plane, 0))):
            with self.assertRaises(RopeError) as caught:
                call(*told)
            self.assertIs(type(caught.exception), kind)
            self.assertEqual({name: getattr(caught.exception, name) for name in fields}, fields)


if __name__ == "__main__":
    unittest.main()
