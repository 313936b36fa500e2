"""Balls (n, q) of a prime: all fractions that have at least n parts less q."""

from ballmoves.errors import BadBall
from ballmoves.fractions import fraction, is_fraction, is_number, minus, plus, times_of
from ballmoves.primes import has_parts, parts, power_of, prime_power, rest, times_in

ROOT = (0, (0, 1))


def is_below(p, n, q):
    """Whether q is below p ** n; q is from 0 on, its lower number a power of p."""
    reach = n + times_in(p, q[1])
    # A ball may have any n: the power is worked out only where it can decide.
    if q[0] == 0 or reach >= q[0].bit_length():
        return True
    return reach > 0 and q[0] < power_of(p, reach)


def is_ball(p, value):
    """Whether any value is a ball."""
    if not isinstance(value, tuple) or len(value) != 2:
        return False
    n, q = value
    if not is_number(n) or not is_fraction(q) or q[0] < 0:
        return False
    return q[1] == power_of(p, times_in(p, q[1])) and is_below(p, n, q)


def ball_at(p, n, x):
    """The ball with this n that has the fraction x."""
    times = times_in(p, x[1])
    if n + times <= 0:
        return (n, (0, 1))
    scale = power_of(p, times)
    return (n, fraction(rest(p, n + times, (x[0], x[1] // scale)), scale))


def ball(p, n, x):
    """The ball with this n that has the fraction x; both are any values."""
    if not is_number(n) or not is_fraction(x):
        raise BadBall()
    return ball_at(p, n, x)


def has(p, ball, x):
    """Whether a ball has a fraction."""
    return has_parts(p, minus(x, ball[1]), ball[0])


def common_n(p, one, other):
    """The greatest n of a ball that has all fractions of two balls."""
    lesser = min(one[0], other[0])
    between = minus(one[1], other[1])
    if between[0] == 0:
        return lesser
    return min(lesser, parts(p, between))


def is_in(p, one, other):
    """Whether the ball other has all fractions of one."""
    return one[0] >= other[0] and has(p, other, one[1])


def about(p, ball):
    """The ball with n - 1 that has all fractions of a ball."""
    return ball_at(p, ball[0] - 1, ball[1])


def within(p, ball):
    """The p balls with n + 1 that a ball has, ascending."""
    n, q = ball
    step = prime_power(p, n)
    return [(n + 1, plus(q, times_of((k, 1), step))) for k in range(p)]


def neighbours(p, ball):
    """The ball about a ball, then those within it."""
    return [about(p, ball)] + within(p, ball)


def least_about(p, one, other):
    """The ball with the greatest n that has all fractions of both."""
    return ball_at(p, common_n(p, one, other), one[1])


def ascending(balls):
    """The list of balls of one prime by their n, then by their q."""
    # The lower numbers are powers of one prime: the greatest one serves all.
    scale = max([ball[1][1] for ball in balls], default=1)
    return sorted(balls, key=lambda ball: (ball[0], ball[1][0] * (scale // ball[1][1])))
