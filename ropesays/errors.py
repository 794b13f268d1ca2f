"""The errors of the package: RopeError, and all others directly below it."""


class RopeError(ValueError):
    """The base of all errors of the package; it takes any values."""


class BadNumber(RopeError):
    """A value that is no integer, or one outside of its bounds."""

    def __init__(self, part):
        self.part = part


class BadClock(RopeError):
    """A value that is no clock."""

    def __init__(self, part):
        self.part = part


class BadRow(RopeError):
    """A value that is no row of the clock of a size that is told."""

    def __init__(self, part):
        self.part = part


class BadSpace(RopeError):
    """A value that is no Space."""

    def __init__(self, part):
        self.part = part


class BadTangle(RopeError):
    """A value that is no Tangle, or no Band, or nothing to make one of."""

    def __init__(self, part):
        self.part = part


class BadSystem(RopeError):
    """A value that is no System, or nothing to make one of."""

    def __init__(self, part):
        self.part = part


class BadWord(RopeError):
    """A value that is none of some words."""

    def __init__(self, part):
        self.part = part


class Misfit(RopeError):
    """A value that does not fit together with what else was passed."""

    def __init__(self, part):
        self.part = part


class NoName(RopeError):
    """A name by which nothing is kept."""

    def __init__(self, value):
        self.value = value


class Twice(RopeError):
    """A value that stands there already."""

    def __init__(self, value):
        self.value = value


class TooMany(RopeError):
    """There are more of something than the most that there may be."""

    def __init__(self, what, most):
        self.what = what
        self.most = most


class Nothing(RopeError):
    """There is nothing to take back, or to do again."""

    def __init__(self):
        pass


class BadText(RopeError):
    """A text in which an item of a line cannot stand, or is missing."""

    def __init__(self, line, item):
        self.line = line
        self.item = item


class BadLine(RopeError):
    """The number of a line of a script, and the error that was raised there."""

    def __init__(self, line, error):
        self.line = line
        self.error = error
