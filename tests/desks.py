"""For the tests: what a line of a desk looks like, told otherwise than by reading it item by item."""

import functools
import re

from tests.test_systems import equation_pattern

NAME = "[a-z][a-z0-9]{0,11}"
EVEN = "(0|2|4|6|8|10|12|14|16)"
GAP = "([0-9]|1[0-5])"
DEED = "(over|under|join|open|turn) ([0-9]|1[0-9]|2[0-3])"
UNKNOWN = "[a-z]{1,8}"

# What stands behind each word.
KINDS = {
    "space": ("name", "rows"), "system": ("name", "equations"), "tangle": ("name", "deeds"),
    "answers": ("name", "name"), "fair": ("name", "name"), "beside": ("name", "name"), "whites": ("name", "name"),
    "blacks": ("name", "name"), "through": ("name", "name"), "tie": ("name", "name"), "rope": ("name", "name"),
    "pull": ("name", "name"), "turned": ("name", "name", "gap"), "closed": ("name", "name", "name"),
    "drop": ("name",), "undo": (), "again": (), "log": (), "names": (), "holds": ("name", "row"), "isfair": ("name",),
    "row": ("name", "row"), "same": ("name", "name"), "free": ("name",), "loops": ("name",), "ropes": ("name",),
    "said": ("name", "unknowns"), "led": ("row",), "fewest": ("row",), "count": ("ends",), "picture": ("name",),
    "text": ("name",),
}
KEPT = tuple(KINDS)[:15]

# With what a line may end that has come so far that just this kind is missing.
WHOLE = {
    "name": ["a"], "rows": ["0"], "equations": ["x"], "deeds": ["0"], "gap": ["0"], "row": ["0"], "unknowns": ["x"],
    "ends": ["0"],
}


def patterns(clock):
    number = "(" + "|".join(map(str, range(clock))) + ")"
    row = f"{number}( {number}){{0,15}}"
    return {
        "name": NAME, "rows": f"{row}( / {row}){{0,19}}",
        "equations": f"{UNKNOWN}( {UNKNOWN}){{0,6}}( / [^/]*){{0,20}}",
        "deeds": f"{EVEN}( / {DEED})*", "gap": GAP, "row": row, "unknowns": f"{UNKNOWN}( {UNKNOWN}){{0,6}}",
        "ends": EVEN,
    }


@functools.cache
def line_pattern(clock, word):
    return re.compile(" ".join([word] + [f"({patterns(clock)[kind]})" for kind in KINDS[word]]))


def is_line(clock, line):
    """Whether a line is one of the tables."""
    word = line.split(" ")[0]
    if word not in KINDS or not line_pattern(clock, word).fullmatch(line):
        return False
    head, *rest = line.split(" / ")
    if word == "space":
        return len({len(row.split(" ")) for row in [head.split(" ", 2)[2], *rest]}) == 1
    if word in ("system", "said"):
        names = head.split(" ")[2:]
        if len(set(names)) != len(names):
            return False
        return all(equation_pattern(names).fullmatch(side) for side in rest)
    return True


def endings(word, items):
    """With what a line of a word may end, whatever stands there so far."""
    kinds = KINDS[word]
    names = [name for name in items[2:9] if re.fullmatch(UNKNOWN, name)]
    found = [[]]
    for at, kind in enumerate(kinds):
        within = [WHOLE[kind]]
        if kind == "rows":
            within += [["0"] * many for many in range(2, 17)]
        if kind == "deeds":
            within += [["over", "0"]]
        if kind == "equations":
            within += [["0"], ["=", "0"]] + [rest for name in names for rest in ([name], [name, "=", "0"])]
        found += [each + [item for later in kinds[at + 1:] for item in WHOLE[later]] for each in within]
    return found


def first_wrong(clock, line):
    """The index of the first item that cannot stand behind those before it, or is missing; None for a right line."""
    if is_line(clock, line):
        return None
    items = line.split(" ")
    if items[0] not in KINDS:
        return 0
    for at in range(1, len(items)):
        ahead = items[:at + 1]
        if not any(is_line(clock, " ".join(ahead + rest)) for rest in endings(items[0], ahead)):
            return at
    return len(items)
