"""For the tests: games as the document tells them, and rows that are chess, nearly chess, or neither."""

import itertools

EVEN = (2, 4, 6, 8, 10, 12, 14, 16)


def told_chess(row):
    return len(set(row[0::2])) == 1 and len(set(row[1::2])) == 1


def told_nearly(clock, row):
    """Whether a row is no chess row, but would be one if one gap had another number."""
    if told_chess(row):
        return False
    return any(told_chess([*row[:at], number, *row[at + 1:]]) for at in range(len(row)) for number in range(clock))


def told_game(clock, row, sets):
    """Whether pairs are a game for a row."""
    row = list(row)
    for gap, number in sets:
        if row[(gap - 1) % len(row)] == row[(gap + 1) % len(row)] or not 0 <= number < clock:
            return False
        row[gap] = number
    return told_nearly(clock, row)


def some_rows(clock, size, source, many=6):
    """Rows by chance, with few numbers and with many, and such as are chess or nearly so."""
    rows = [[source.randrange(clock) for _ in range(size)] for _ in range(many)]
    rows += [[source.choice((0, 1)) for _ in range(size)] for _ in range(many)]
    for row in rows[:many]:
        rows.append([row[at % 2] for at in range(size)])
        for changes in (1, 2, 3):
            rows.append([row[at % 2] for at in range(size)])
            for _ in range(changes):
                rows[-1][source.randrange(size)] = source.randrange(clock)
    return rows


def all_rows(clock, size):
    return itertools.product(range(clock), repeat=size)
