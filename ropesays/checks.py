"""What a value is: an integer, one within bounds, a clock, a row."""

CLOCKS = (3, 5, 7, 11, 13, 17, 19, 23, 29, 31)


def is_integer(value):
    """Whether a value is an integer; True and False are none."""
    return isinstance(value, int) and not isinstance(value, bool)


def is_within(value, least, most):
    """Whether a value is an integer from least to most; None is no bound."""
    if not is_integer(value):
        return False
    return (least is None or least <= value) and (most is None or value <= most)


def is_clock(value):
    """Whether a value is a clock."""
    # Without the first test 3.0 would be a clock, as it equals 3.
    return is_integer(value) and value in CLOCKS


def is_row(value, clock, size):
    """Whether a value is a list or tuple of just so many numbers of a clock."""
    if not is_clock(clock) or not isinstance(value, (list, tuple)) or len(value) != size:
        return False
    return all([is_within(number, 0, clock - 1) for number in value])
