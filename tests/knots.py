"""Tangles for the tests: some by chance, the same ones each time, and the greatest that may be."""

import random

WORDS = ("over", "under", "join", "open", "turn")


def told_gaps(word, ends):
    """The gaps of a ring of so many ends at which a deed fits, as the document's table tells them."""
    gaps = range(ends) if ends else range(1)
    if word == "open":
        return list(gaps)
    if ends == 0:
        return []
    if word == "join":
        return [1] if ends == 2 else [gap for gap in gaps if 1 <= gap <= ends - 2]
    return list(gaps)


def told_ends(word, ends):
    return ends + {"join": -2, "open": 2}.get(word, 0)


def closing(ends, source):
    """Joins that leave no ends of a ring."""
    deeds = []
    while ends:
        deeds.append(("join", source.choice(told_gaps("join", ends))))
        ends -= 2
    return deeds


def some_deeds(ends, many, source, most=24):
    """So many fitting deeds by chance, with opens where there are fewer ends than the most, and joins behind them."""
    deeds, now = [], ends
    for _ in range(many):
        words = [word for word in WORDS if told_gaps(word, now) and (word != "open" or now < most)]
        word = source.choice(words)
        deeds.append((word, source.choice(told_gaps(word, now))))
        now = told_ends(word, now)
    return deeds + closing(now, source)


def leading(ends, inner, source):
    """Opens or joins that lead from a ring to one with so many ends."""
    deeds, now = [], ends
    while now != inner:
        word = "open" if now < inner else "join"
        deeds.append((word, source.choice(told_gaps(word, now))))
        now = told_ends(word, now)
    return deeds


def some_band_deeds(ends, inner, many, source, most=24):
    """So many fitting deeds by chance, and what leads behind them to a ring with so many ends."""
    deeds, now = [], ends
    for word, gap in some_deeds(ends, many, source, most)[:many]:
        deeds.append((word, gap))
        now = told_ends(word, now)
    return deeds + leading(now, inner, source)


def many_deeds(seed=1, most=24):
    """For each rim some lists of deeds, from a few to some dozens."""
    source = random.Random(seed)
    for ends in range(0, 17, 2):
        yield ends, closing(ends, source)
        for many in (1, 2, 3, 5, 8, 13, 21, 34):
            yield ends, some_deeds(ends, many, source, most)


def greatest_deeds():
    """4,000 deeds on rings of up to 24 ends."""
    return [("open", at) for at in range(12)] + [("over", 0), ("under", 23), ("turn", 7), ("over", 5)] * 994 + [
        ("join", 1)] * 12
