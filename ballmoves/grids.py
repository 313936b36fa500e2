"""Moves told at others, and grids: what balls, one at each prime, tell together."""

from ballmoves.balls import ROOT
from ballmoves.leads import led
from ballmoves.moves import after, back, scaled, size
from ballmoves.primes import inverse, power_of, times_in


def told_by(t, m):
    """The move m, told at t."""
    return after(back(t), after(m, t))


def is_whole(m):
    """Whether a move is whole."""
    return size(m) in (1, -1)


def is_whole_at(t, moves):
    """Whether all moves, told at t, are whole."""
    return all([is_whole(told_by(t, m)) for m in moves])


def is_same_grid(t, u):
    """Whether two moves tell the same grid."""
    return is_whole(after(back(t), u))


def balls_of(primes, t):
    """The balls of a move at each of a list of primes."""
    return [led(p, t, ROOT) for p in primes]


def lower_times(p, ball):
    """How often p must be in a number that makes q and p ** n of a ball whole."""
    return max(-ball[0], times_in(p, ball[1][1]))


def grid_of(pairs):
    """The move (a, b, 0, d) whose balls are told by pairs of a prime and a ball."""
    lower = 1
    for p, ball in pairs:
        lower = lower * power_of(p, lower_times(p, ball))
    upper, reach = 0, 1
    for p, ball in pairs:
        n, q = ball
        k = n + lower_times(p, ball)
        # Upper stays as it is for the primes ahead, and comes to q at this one.
        left = q[0] * (lower // q[1]) - upper
        power = power_of(p, k)
        upper += reach * (left * inverse(p, k, reach) % power)
        reach = reach * power
    return scaled(reach, upper, 0, lower)


def grid_form(t):
    """The move (a, b, 0, d) that tells the same grid as a move."""
    a, b, c, d = t
    # Columns may be exchanged, and taken from one another: so c comes to 0.
    while c != 0:
        times = d // c
        a, b, c, d = b - times * a, a, d - times * c, c
    if d < 0:
        b, d = -b, -d
    return scaled(abs(a), b % abs(a), 0, d)
