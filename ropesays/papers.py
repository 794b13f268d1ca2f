"""Papers: answers together with what shows them; denials are those that say no."""


def fixed(value):
    """A value with tuples in the place of lists, all the way in; other values stay."""
    if isinstance(value, (list, tuple)):
        return tuple([fixed(item) for item in value])
    return value


def _copied(value):
    """A value equal to this one, with lists, tuples and dicts of its own."""
    if isinstance(value, list):
        return [_copied(item) for item in value]
    if isinstance(value, tuple):
        return tuple([_copied(item) for item in value])
    if isinstance(value, dict):
        return {key: _copied(value[key]) for key in value}
    return value


def _are_equal(one, other):
    """Whether a paper and any other value are equal papers of one class."""
    if not isinstance(other, Paper) or isinstance(one, Denial) != isinstance(other, Denial):
        return False
    if one.__class__.__name__ != other.__class__.__name__:
        return False
    return bool(one.word == other.word) and one.parts == other.parts


class Paper:
    """An answer and what shows it: its word and its parts. It is true."""

    def __init__(self, word, *parts):
        # fixed leaves dicts as they are, but a paper must not change with one that was passed.
        self.word = fixed(_copied(word))
        self.parts = fixed(_copied(parts))

    def __eq__(self, other):
        return _are_equal(self, other)

    def __bool__(self):
        return True


class Denial(Paper):
    """A paper that says no. It is false."""

    def __init__(self, word, *parts):
        super().__init__(word, *parts)

    def __eq__(self, other):
        return _are_equal(self, other)

    def __bool__(self):
        return False
