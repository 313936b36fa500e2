"""Balls led by moves, and moves told at balls."""

from ballmoves.balls import ball_at
from ballmoves.fractions import fraction
from ballmoves.moves import after, back, move, size
from ballmoves.primes import has_parts, parts, prime_power, times_in


def led(p, m, ball):
    """The ball to which a move leads a ball."""
    a, b, c, d = m
    n, q = ball
    top = a * q[0] + b * q[1]
    low = c * q[0] + d * q[1]
    times = n + times_in(p, size(m))
    # The grid's columns (p ** n, 0) and (q, 1) are led to (a p ** n, c p ** n) and (top, low). The one whose lower
    # number has fewer parts tells the ball's place; times of it, taken away, leave the other one no lower number.
    if low == 0 or not has_parts(p, (c, 1), parts(p, (low, q[1])) - n):
        return ball_at(p, times - 2 * (times_in(p, c) + n), fraction(a, c))
    return ball_at(p, times - 2 * parts(p, (low, q[1])), fraction(top, low))


def grid_move(p, ball):
    """The move that leads the ball (0, (0, 1)) to a ball, grid to grid."""
    return move(prime_power(p, ball[0]), ball[1], 0, 1)


def told_at(p, m, ball):
    """The move that m is, told at a ball's grid."""
    grid = grid_move(p, ball)
    return after(back(grid), after(m, grid))


def moving(p, one, other):
    """A move that leads the ball one to the ball other."""
    return after(grid_move(p, other), back(grid_move(p, one)))
