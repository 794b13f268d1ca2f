"""Pictures: a tangle line by line, with the numbers of its regions, or with marks in their place."""

from ropesays.deeds import CROSSINGS
from ropesays.demands import demand_clock, demand_row
from ropesays.floors import Floor
from ropesays.tangles import demand_tangle
from ropesays.texts import line_of


def picture(tangle):
    """The lines of a tangle's picture."""
    demand_tangle(tangle, "tangle")
    floor = Floor(tangle.ends, tangle.deeds)
    return tuple(_lines(floor, tangle.deeds, list(range(floor.regions))))


def filled(tangle, clock, marks):
    """The lines of a tangle's picture with marks, whether or not they keep the rules of its crossings."""
    demand_tangle(tangle, "tangle")
    demand_clock(clock)
    floor = Floor(tangle.ends, tangle.deeds)
    demand_row(marks, clock, floor.regions, floor.regions, "marks")
    lines = _lines(floor, tangle.deeds, marks)
    # The line of the rim stands ahead of those of the deeds.
    crossed = [line for line, (word, _) in enumerate(tangle.deeds, 1) if word in CROSSINGS]
    for line, (word, *regions) in zip(crossed, floor.crossings):
        sums = _sums(clock, word, [marks[region] for region in regions])
        lines[line] = f"{lines[line]} : {sums}"
    return tuple(lines)


def _lines(floor, deeds, marks):
    """The line of the rim, and one for each deed, with the marks of the regions in the gaps."""
    rings = [line_of([marks[region] for region in ring]) for ring in floor.rings]
    lines = [f"{word} {gap} > {ring}" for (word, gap), ring in zip(deeds, rings[1:])]
    return [f"rim {rings[0]}", *lines]


def _sums(clock, word, numbers):
    """The numbers left, out, right and inner of a crossing, as its rule adds them, and whether both sums are alike."""
    left, out, right, inner = numbers
    # On either side of the upper rope, ahead of the crossing and behind it, in the order of the gaps.
    ahead, behind = ((left, out), (inner, right)) if word == "over" else ((out, right), (left, inner))
    sign = "is" if sum(ahead) % clock == sum(behind) % clock else "is not"
    return f"{ahead[0]} + {ahead[1]} {sign} {behind[0]} + {behind[1]}"
