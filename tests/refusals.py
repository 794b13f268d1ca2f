"""How the tests ask whether a call is refused, and with which error and which fields."""

import unittest

from ropesays.errors import BadText, TooMany

# What can never stand in the place of an integer of a text.
NO_WRITTEN = (
    "", "-0", "+1", "01", "00", "1.0", "1e0", "0x1", "x", "1_0", "1\t", "\t1", "1\r", "1,", "None", "True", "/",
    "-", "--1", "\u0661", "\u00b2", "\uff11", "1\u00a0", "\u22121",
    "1" * 61, "-" + "1" * 61, "0" * 61 + "1", "1" * 5000, "-" + "9" * 5000,
)

NO_STRINGS = (None, True, 0, 3, 1.5, b"", b"ends 0", [], ["ends 0"], ("ends 0",), {}, set(), object(), str, len)


class Refusals(unittest.TestCase):

    def raised(self, kind, call, *told, **named):
        with self.assertRaises(kind) as caught:
            call(*told, **named)
        self.assertIs(type(caught.exception), kind)
        return caught.exception

    def refused(self, kind, part, call, *told, **named):
        self.assertEqual(self.raised(kind, call, *told, **named).part, part)

    def too_many(self, what, most, call, *told, **named):
        error = self.raised(TooMany, call, *told, **named)
        self.assertEqual((error.what, error.most), (what, most))

    def misread(self, line, item, read, text):
        error = self.raised(BadText, read, text)
        self.assertEqual((error.line, error.item), (line, item), str(text)[:200])

    def misread_item_by_item(self, read, text, wrong):
        """Refused are each item exchanged for wrong ones, a line cut off anywhere, and one with an item too many."""
        lines = [line.split(" ") for line in text.split("\n")]

        def refused_with(line, item, items):
            changed = lines[:line] + [items] + lines[line + 1:]
            self.misread(line, item, read, "\n".join([" ".join(each) for each in changed]))

        for line, items in enumerate(lines):
            for at in range(len(items)):
                for bad in wrong(line, at):
                    refused_with(line, at, items[:at] + [bad] + items[at + 1:])
                    refused_with(line, at, items[:at] + [bad])
                    refused_with(line, at, items[:at] + [bad] * (len(items) + 1))
                refused_with(line, at, items[:at] + [""] + items[at:])
                refused_with(line, at, items[:at] or [""])
            refused_with(line, len(items), items + ["0"])
            refused_with(line, len(items), items + [""])
