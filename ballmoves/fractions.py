"""Fractions: tuples (n, d) without a common divisor, d from 1 on."""

from math import gcd


def is_number(value):
    """Whether a value is an integer; True and False are none."""
    return isinstance(value, int) and not isinstance(value, bool)


def is_pair(value):
    """Whether a value is a tuple of two integers."""
    return isinstance(value, tuple) and len(value) == 2 and is_number(value[0]) and is_number(value[1])


def fraction(n, d):
    """The fraction that stands for n / d, d not 0."""
    divisor = gcd(n, d)
    if d < 0:
        divisor = -divisor
    return (n // divisor, d // divisor)


def is_fraction(value):
    """Whether any value is a fraction."""
    return is_pair(value) and value[1] > 0 and gcd(value[0], value[1]) == 1


def plus(x, y):
    """The sum of two fractions."""
    return fraction(x[0] * y[1] + y[0] * x[1], x[1] * y[1])


def minus(x, y):
    """The fraction x less y."""
    return fraction(x[0] * y[1] - y[0] * x[1], x[1] * y[1])


def times_of(x, y):
    """The product of two fractions."""
    return fraction(x[0] * y[0], x[1] * y[1])


def divided(x, y):
    """The fraction x divided by y, which is not 0."""
    return fraction(x[0] * y[1], x[1] * y[0])


def is_less(x, y):
    """Whether the fraction x stands for less than y."""
    return x[0] * y[1] < y[0] * x[1]
