"""Moves (a, b, c, d): tuples of integers that lead x to (a x + b) / (c x + d)."""

from math import gcd, lcm

from ballmoves.errors import BadMove, SamePoints
from ballmoves.fractions import is_fraction, is_number
from ballmoves.points import point

STILL = (1, 0, 0, 1)


def scaled(a, b, c, d):
    """The move whose table is that of four integers, but for a common factor."""
    divisor = gcd(a, b, c, d)
    if a < 0 or a == 0 and b < 0:
        divisor = -divisor
    return (a // divisor, b // divisor, c // divisor, d // divisor)


def as_fraction(value):
    """The fraction that any value tells, being one or an integer."""
    if is_number(value):
        return (value, 1)
    if is_fraction(value):
        return value
    raise BadMove()


def move(a, b, c, d):
    """The move that leads by four fractions or integers, which are any values."""
    told = [as_fraction(value) for value in (a, b, c, d)]
    scale = lcm(told[0][1], told[1][1], told[2][1], told[3][1])
    a, b, c, d = [x[0] * (scale // x[1]) for x in told]
    if a * d == b * c:
        raise BadMove()
    return scaled(a, b, c, d)


def is_move(value):
    """Whether any value is a move."""
    if not isinstance(value, tuple) or len(value) != 4:
        return False
    if not all([is_number(part) for part in value]):
        return False
    return size(value) != 0 and scaled(*value) == value


def led_point(m, q):
    """The point to which a move leads a point."""
    a, b, c, d = m
    x, y = q
    return point(a * x + b * y, c * x + d * y)


def after(one, other):
    """The move that leads as other and then one."""
    a, b, c, d = one
    e, f, g, h = other
    return scaled(a * e + b * g, a * f + b * h, c * e + d * g, c * f + d * h)


def back(m):
    """The move that leads each point back."""
    a, b, c, d = m
    return scaled(d, -b, -c, a)


def power(m, n):
    """The move that leads as n times m, below 0 as so many times its back."""
    if n < 0:
        return power(back(m), -n)
    found = STILL
    square = m
    while n > 0:
        if n & 1:
            found = after(found, square)
        n = n >> 1
        if n > 0:
            square = after(square, square)
    return found


def size(m):
    """The size a d - b c of a move's table."""
    a, b, c, d = m
    return a * d - b * c


def sum_of(m):
    """The sum a + d of a move."""
    return m[0] + m[3]


def under_root(m):
    """(a + d) (a + d) less four times the size: 0 if a move keeps just one point, or all."""
    a, b, c, d = m
    return (a - d) * (a - d) + 4 * b * c


def bracket(one, other):
    """The four numbers of the table G H - H G, for the tables G and H of two moves."""
    a, b, c, d = one
    e, f, g, h = other
    return (b * g - f * c, (a - d) * f - b * (e - h), c * (e - h) - (a - d) * g, c * f - g * b)


def cross(q, r):
    """The size of the table that has two points as its columns: 0 if they are equal."""
    return q[0] * r[1] - q[1] * r[0]


def to_points(points):
    """The move that leads far, 0 and 1 to three points."""
    first, second, third = points
    # The columns are the first two points, so many times that their sum is the third one.
    left = cross(third, second)
    right = cross(first, third)
    if left == 0 or right == 0 or cross(first, second) == 0:
        raise SamePoints()
    return scaled(first[0] * left, second[0] * right, first[1] * left, second[1] * right)


def three(points, others):
    """The move that leads three points to three others."""
    source = to_points(points)
    return after(to_points(others), back(source))
