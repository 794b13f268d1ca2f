"""Promise 2: the errors and their fields."""

import unittest

from ropesays import errors
from ropesays.errors import (
    BadClock, BadLine, BadNumber, BadRow, BadSpace, BadSystem, BadTangle, BadText, BadWord,
    Misfit, NoName, Nothing, RopeError, TooMany, Twice,
)

FIELDS = {
    BadNumber: ("part",), BadClock: ("part",), BadRow: ("part",), BadSpace: ("part",),
    BadTangle: ("part",), BadSystem: ("part",), BadWord: ("part",), Misfit: ("part",),
    NoName: ("value",), Twice: ("value",), TooMany: ("what", "most"), Nothing: (),
    BadText: ("line", "item"), BadLine: ("line", "error"),
}

VALUES = (None, True, 0, -1, 10 ** 40, 1.5, "clock", b"row", [1, [2]], (1, 2), {"a": [1]}, {1}, object(), len)


class TestErrors(unittest.TestCase):

    def test_the_errors_are_just_those_of_the_document(self):
        defined = [value for value in vars(errors).values() if isinstance(value, type)]
        self.assertEqual(set(defined), set(FIELDS) | {RopeError})

    def test_each_one_is_directly_below_rope_error(self):
        self.assertEqual(RopeError.__bases__, (ValueError,))
        for kind in FIELDS:
            self.assertEqual(kind.__bases__, (RopeError,), kind)
            below = (kind, RopeError, ValueError, Exception, BaseException, object)
            self.assertEqual(kind.__mro__, below, kind)

    def test_rope_error_takes_any_values(self):
        for values in ((), VALUES, ("text",), ([1], None)):
            with self.assertRaises(ValueError) as caught:
                raise RopeError(*values)
            self.assertIsInstance(caught.exception, RopeError)

    def test_fields_by_place_and_by_name(self):
        for kind, fields in FIELDS.items():
            for shift in range(len(VALUES)):
                told = {name: VALUES[(shift + at) % len(VALUES)] for at, name in enumerate(fields)}
                for error in (kind(*told.values()), kind(**told)):
                    for name in fields:
                        self.assertIs(getattr(error, name), told[name], (kind, name))

    def test_names_in_any_order(self):
        error = TooMany(most=400, what="spaces")
        self.assertEqual((error.what, error.most), ("spaces", 400))
        error = BadText(item=2, line=1)
        self.assertEqual((error.line, error.item), (1, 2))
        error = BadLine(3, error=Nothing())
        self.assertEqual((error.line, type(error.error)), (3, Nothing))

    def test_a_value_is_kept_as_it_was_passed(self):
        value = ["a", ["b"]]
        self.assertIs(NoName(value).value, value)
        self.assertIsInstance(Twice(value=value).value[1], list)

    def test_each_one_is_made_with_just_its_fields(self):
        for kind, fields in FIELDS.items():
            with self.assertRaises(TypeError):
                kind(*["x"] * (len(fields) + 1))
            with self.assertRaises(TypeError):
                kind(*["x"] * len(fields), strange=1)
            if fields:
                with self.assertRaises(TypeError):
                    kind(*["x"] * (len(fields) - 1))

    def test_each_one_is_raised_and_caught_by_itself(self):
        for kind, fields in FIELDS.items():
            made = kind(*["x"] * len(fields))
            for other in FIELDS:
                self.assertEqual(isinstance(made, other), kind is other)
            with self.assertRaises(kind) as caught:
                raise made
            self.assertIs(caught.exception, made)
            self.assertIsInstance(str(made), str)


if __name__ == "__main__":
    unittest.main()
