"""Values of every kind, and one that claims to be equal to all, for the tests of refusals."""

from decimal import Decimal
from fractions import Fraction

CLOCKS = (3, 5, 7, 11, 13, 17, 19, 23, 29, 31)


class Agreeing:
    """Equal to everything, and neither less nor greater than anything."""

    def __eq__(self, other):
        return True

    def __le__(self, other):
        return True

    def __ge__(self, other):
        return True


class Refusing:
    """Raises an error as soon as it is compared, measured or tested."""

    def __eq__(self, other):
        raise RuntimeError("compared")

    def __le__(self, other):
        raise RuntimeError("compared")

    def __ge__(self, other):
        raise RuntimeError("compared")

    def __bool__(self):
        raise RuntimeError("tested")

    def __len__(self):
        raise RuntimeError("measured")


NO_INTEGERS = (
    None, True, False, 0.0, 1.0, 3.0, float("nan"), float("inf"), 3j, Fraction(3), Decimal(3),
    "", "3", "1", b"", b"3", [], [3], (), (3,), {}, {3: 3}, set(), {3}, frozenset([3]), range(3),
    object(), int, len, ValueError("3"), Agreeing(), Refusing(),
)

NO_CLOCKS = tuple(value for value in range(-40, 70) if value not in CLOCKS) + (10 ** 40, -10 ** 40, *NO_INTEGERS)

NO_LISTS = (
    None, True, False, 0, 1, 3, -1, 10 ** 30, 1.0, 3j, "", "1", "00", "1 1", b"", b"\x01\x01",
    {}, {0: 1, 1: 1}, set(), {0, 1}, frozenset([0, 1]), range(2), iter([1, 1]), object(),
    list, len, ValueError("1"), Agreeing(), Refusing(),
)
