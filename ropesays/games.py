"""Games on a ring: numbers are set one behind another, until the row is nearly chess."""

from ropesays.rims import alternates
from ropesays.steps import changed


def strange_gap(row):
    """The first strange gap of a row, a tuple, that is nearly chess; None for any other row."""
    if alternates(row):
        return None
    for gap in range(len(row)):
        # A row that is no chess row has another gap two places ahead.
        if alternates(changed(row, gap, row[gap - 2])):
            return gap
    return None


class Game:
    """A row, and what was set in it so far."""

    def __init__(self, clock, row):
        self.clock = clock
        self.row = tuple(row)
        self.sets = []

    def is_over(self):
        """Whether the row is nearly chess."""
        return strange_gap(self.row) is not None

    def put(self, gap, number):
        """Set a gap to a number, unless it has it, or the game is over."""
        if self.row[gap] != number and not self.is_over():
            self.row = changed(self.row, gap, number)
            if self.sets and self.sets[-1][0] == gap:
                # Its neighbours are as they were when it was set last, so this number could have been set at once.
                self.sets.pop()
            self.sets.append((gap, number))

    def even_whites(self):
        """Make the even gaps like gap 0, one behind another; so ahead of each of them there is one like gap 0."""
        size = len(self.row)
        for gap in range(2, size, 2):
            behind = self.row[gap + 1]
            if self.row[gap] != self.row[0] and self.row[gap - 1] == behind:
                # It may be set between unlike neighbours alone.
                self.put(gap - 1, (behind + 1) % self.clock)
            self.put(gap, self.row[0])

    def even_blacks(self):
        """Make the odd gaps like gap 1, all even ones being alike; one of these stays strange."""
        white, black = self.row[0], self.row[1]
        other = (white + 1) % self.clock
        end = len(self.row) - 1
        first = [gap for gap in range(3, end + 1, 2) if self.row[gap] != black][0]
        # The white ahead of a black is otherwise, so that the black may be set; the next white follows it.
        self.put(first - 1, other)
        for gap in range(first, end, 2):
            self.put(gap, self._third_number(gap))
            self.put(gap + 1, other)
            self.put(gap - 1, white)
            self.put(gap, black)
        self.put(end, black)

    def _third_number(self, gap):
        """A number unlike that of gap 1 and that of the next odd gap; the gap's own one, if it is so."""
        unlike = (self.row[1], self.row[gap + 2])
        return [number for number in (self.row[gap], 0, 1, 2) if number not in unlike][0]


def game_for(clock, row):
    """The pairs (gap, number) of a game for a row that is no chess row: at most 3 times the size less 8."""
    game = Game(clock, row)
    game.even_whites()
    if not game.is_over():
        game.even_blacks()
    return tuple(game.sets)
