"""Points: fractions, and the far point (1, 0)."""

from ballmoves.errors import BadPoint, FarPoint
from ballmoves.fractions import fraction, is_fraction, is_number, is_pair

FAR = (1, 0)


def point(x, y):
    """The point that stands for x / y, far if y is 0."""
    if not is_number(x) or not is_number(y):
        raise BadPoint()
    if y != 0:
        return fraction(x, y)
    if x == 0:
        raise BadPoint()
    return FAR


def is_point(value):
    """Whether any value is a point."""
    return is_fraction(value) or is_pair(value) and value == FAR


def point_of(x):
    """The point that stands for the same as a fraction."""
    return (x[0], x[1])


def fraction_of(p):
    """The fraction that stands for the same as a point that is not far."""
    if p == FAR:
        raise FarPoint()
    return (p[0], p[1])
