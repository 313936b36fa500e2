"""Balls led by moves, and moves told at balls."""

from ballmoves.balls import ball_at
from ballmoves.fractions import fraction
from ballmoves.moves import after, back, move, size
from ballmoves.primes import has_parts, parts, prime_power, times_in


def led(p, m, ball):
    """The ball to which a move leads a ball."""
    a, b, c, d = m
    n, q = ball
    top = (a * q[0] + b * q[1], q[1])
    low = (c * q[0] + d * q[1], q[1])
    times = n + times_in(p, size(m))
    # Of the grid's two led columns the one with fewer parts in its lower row stays, the other one's goes.
    if low[0] == 0 or c != 0 and not has_parts(p, (c, 1), parts(p, low) - n):
        return ball_at(p, times - 2 * (times_in(p, c) + n), fraction(a, c))
    return ball_at(p, times - 2 * parts(p, low), fraction(top[0], low[0]))


def grid_move(p, ball):
    """The move that leads the ball (0, (0, 1)) to a ball, grid to grid."""
    return move(prime_power(p, ball[0]), ball[1], 0, 1)


def told_at(p, m, ball):
    """The move that m is, told at a ball's grid."""
    grid = grid_move(p, ball)
    return after(back(grid), after(m, grid))


def moving(p, one, other):
    """A move that leads the ball one to the ball other."""
    return after(grid_move(p, other), back(grid_move(p, one)))
