"""A desk: it keeps spaces, systems and tangles by names, and answers the lines that it is told."""

from ropesays.askings import asked, in_one_line
from ropesays.demands import demand_clock
from ropesays.errors import Misfit, NoName, Nothing, TooMany, Twice
from ropesays.lines import FORMS, is_to_be_kept, line_told
from ropesays.makings import kind_of, made, size_of

MOST_LINES = 200

# What must be kept by the names that stand in a line in such a place.
KINDS = ("space", "system", "tangle")
ANY_KEPT = ("space", "system", "tangle", "kept")


class Desk:
    """What is kept by names on a clock, and the log of the lines by which it came about."""

    def __init__(self, clock):
        demand_clock(clock)
        self.clock = clock
        self.log = ()
        self.held = {}
        # For each line of the log its name, and what was kept by it ahead of the line; None for nothing.
        self.ahead = []
        self.undone = []

    def kept(self, name):
        """What is kept by a name."""
        if not isinstance(name, str) or name not in self.held:
            raise NoName(name)
        return self.held[name]

    def tell(self, line):
        """The answer to a line."""
        word, told = line_told(self.clock, line)
        self._demand(word, list(zip(FORMS[word], told)))
        if word == "undo":
            return self._undo()
        if word == "again":
            return self._again()
        if word == "log":
            return in_one_line(self.log)
        if word == "names":
            return " ".join(sorted(self.held)) if self.held else "-"
        return self._done(word, told, line)

    def _demand(self, word, places):
        """Refuse a line that cannot be done, by its word and the pairs of what is wanted there and what is told."""
        if is_to_be_kept(word) and len(self.log) == MOST_LINES:
            raise TooMany("lines", MOST_LINES)
        for kind, told in places:
            if kind == "new" and told in self.held:
                raise Twice(told)
        for kind, told in places:
            if kind in ANY_KEPT:
                self.kept(told)
        for kind, told in places:
            if kind in KINDS and kind_of(self.kept(told)) != kind:
                raise Misfit(kind)
        if (word == "undo" and not self.log) or (word == "again" and not self.undone):
            raise Nothing()

    def _done(self, word, told, line):
        """The answer to a line that can be done; it is kept, unless it only asks."""
        values = [self.held[value] if kind in ANY_KEPT else value for kind, value in zip(FORMS[word], told)]
        if not is_to_be_kept(word):
            return asked(word, self.clock, values)
        name = told[0]
        if word == "drop":
            answer, value = name, None
        else:
            value = made(word, self.clock, values[1:])
            answer = size_of(value)
        self.ahead.append((name, self.held.get(name)))
        self._put(name, value)
        self.log = self.log + (line,)
        self.undone = []
        return answer

    def _put(self, name, value):
        """Keep a value by a name; nothing if it is None."""
        if value is None:
            del self.held[name]
        else:
            self.held[name] = value

    def _undo(self):
        """Take back what the last line of the log did; the line."""
        line = self.log[-1]
        name, value = self.ahead.pop()
        self._put(name, value)
        self.log = self.log[:-1]
        self.undone.append(line)
        return line

    def _again(self):
        """Tell the line again that was taken back last; its answer."""
        line, left = self.undone[-1], self.undone[:-1]
        answer = self.tell(line)
        # Those taken back ahead of it may still be told again.
        self.undone = left
        return answer
