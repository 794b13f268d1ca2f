"""The head of the interface: everything listed is defined under its name in its own file."""

import ast
import importlib
import inspect
import os
import unittest

ROOT = os.path.dirname(os.path.dirname(os.path.abspath(__file__)))

PART = ("part",)

# For each module each function with its parameters, and each class with those of its __init__.
FUNCTIONS = {
    "checks": {
        "is_integer": ("value",), "is_within": ("value", "least", "most"), "is_clock": ("value",),
        "is_row": ("value", "clock", "size"),
    },
    "papers": {"fixed": ("value",)},
    "clocks": {
        "number_of": ("clock", "value"), "inverse": ("clock", "number"), "row_sum": ("clock", "one", "other"),
        "row_times": ("clock", "number", "row"),
    },
    "spaces": {
        "holds": ("space", "row"), "meeting": ("one", "other"), "joined_space": ("one", "other"),
        "upright": ("space",), "rows_in": ("space",),
    },
    "rims": {
        "swing": ("clock", "one", "other"), "is_chess": ("clock", "row"), "chess_rows": ("clock", "ends"),
        "beside": ("space",), "turned_space": ("space", "gap"),
    },
    "fairs": {"is_fair": ("space",), "fair_count": ("clock", "ends"), "fair_spaces": ("clock", "ends")},
    "tangles": {"turned": ("tangle", "gap")},
    "regions": {
        "regions_of": ("tangle",), "rim_of": ("tangle",), "rings_of": ("tangle",), "crossings_of": ("tangle",),
    },
    "ropes": {"ropes_of": ("tangle",), "loops_of": ("tangle",)},
    "markings": {"broken_at": ("tangle", "clock", "marks"), "markings": ("tangle", "clock")},
    "through": {"through": ("tangle", "clock"), "free_depth": ("tangle", "clock")},
    "rows": {"judged_row": ("tangle", "clock", "row")},
    "check_rows": {"shows_row": ("tangle", "clock", "row", "value")},
    "moves": {
        "move_words": (), "moves_at": ("tangle", "at"), "moved": ("tangle", "at", "word"), "pulled": ("tangle",),
    },
    "rings": {
        "may_set": ("clock", "row", "gap"), "set_at": ("clock", "row", "gap", "number"),
        "judged_ring": ("clock", "row"),
    },
    "check_rings": {"shows_ring": ("clock", "row", "value")},
    "fewest": {"fewest_sets": ("clock", "row")},
    "tied": {"tied_most": ("clock", "ends"), "tied": ("space",)},
    "check_tied": {"shows_tied": ("space", "value")},
    "systems": {"system_of": ("text",), "answers": ("system",)},
    "roped": {
        "fair_of": ("space",), "whites": ("clock", "row"), "blacks": ("clock", "row"), "white_space": ("space",),
        "black_space": ("space",), "is_split": ("space",), "rope_of": ("system",),
        "equations_of": ("tangle", "clock", "names"),
    },
    "closings": {
        "lead_in": ("tangle",), "closed": ("one", "other"), "closed_depth": ("one", "other", "clock"),
        "depths_of": ("tangle",),
    },
    "same": {"judged_same": ("one", "other", "clock")},
    "check_same": {"shows_same": ("one", "other", "clock", "value")},
    "bands": {
        "idle": ("ends",), "put_ahead": ("band", "tangle"), "chained": ("one", "other"), "passing": ("band", "clock"),
        "let_in": ("band", "space"),
    },
    "pictures": {"picture": ("tangle",), "filled": ("tangle", "clock", "marks")},
    "scripts": {"tell_all": ("clock", "lines")},
}
CLASSES = {
    "errors": {
        "BadNumber": PART, "BadClock": PART, "BadRow": PART, "BadSpace": PART, "BadTangle": PART,
        "BadSystem": PART, "BadWord": PART, "Misfit": PART, "NoName": ("value",), "Twice": ("value",),
        "TooMany": ("what", "most"), "Nothing": (), "BadText": ("line", "item"), "BadLine": ("line", "error"),
    },
    "papers": {"Paper": ("word", "parts"), "Denial": ("word", "parts")},
    "spaces": {"Space": ("clock", "size", "rows")},
    "tangles": {"Tangle": ("ends", "deeds")},
    "rows": {"Filled": ("marks",), "Barred": ("marks",)},
    "rings": {"Led": ("sets",), "Chess": ()},
    "systems": {"System": ("clock", "names", "rows")},
    "same": {"Same": (), "Unlike": ("row",)},
    "bands": {"Band": ("ends", "inner", "deeds")},
    "desk": {"Desk": ("clock",)},
}
METHODS = {
    ("papers", "Paper"): ("__eq__",), ("papers", "Denial"): ("__eq__",),
    ("spaces", "Space"): ("__eq__", "__str__", "read"), ("tangles", "Tangle"): ("__eq__", "__str__", "read"),
    ("systems", "System"): ("__eq__", "__str__", "read"), ("bands", "Band"): ("__eq__", "__str__", "read"),
    ("desk", "Desk"): ("kept", "tell"),
}


def definitions(module, kind):
    """The definitions of one kind at the top of a module's file, by their names."""
    with open(os.path.join(ROOT, "ropesays", module + ".py"), encoding="ascii") as file:
        body = ast.parse(file.read()).body
    return {node.name: node for node in body if isinstance(node, kind)}


class TestInterface(unittest.TestCase):

    def test_functions(self):
        for module, listed in FUNCTIONS.items():
            loaded, defined = importlib.import_module("ropesays." + module), definitions(module, ast.FunctionDef)
            for name, parameters in listed.items():
                self.assertIn(name, defined)
                told = inspect.signature(getattr(loaded, name)).parameters
                self.assertEqual(tuple(told), parameters, name)

    def test_classes(self):
        for module, listed in CLASSES.items():
            loaded, defined = importlib.import_module("ropesays." + module), definitions(module, ast.ClassDef)
            for name, parameters in listed.items():
                self.assertIn(name, defined)
                self.assertIn("__init__", vars(getattr(loaded, name)), name)
                told = inspect.signature(getattr(loaded, name)).parameters
                self.assertEqual(tuple(told), parameters, name)

    def test_methods_stand_in_their_own_class(self):
        for (module, name), listed in METHODS.items():
            own = vars(getattr(importlib.import_module("ropesays." + module), name))
            for method in listed:
                self.assertIn(method, own)
            if "read" in listed:
                self.assertIsInstance(own["read"], (staticmethod, classmethod))

    def test_rope_error_is_defined_in_its_file(self):
        self.assertIn("RopeError", definitions("errors", ast.ClassDef))


if __name__ == "__main__":
    unittest.main()
