"""The ends that a move keeps, the ways to them, and ends that two moves share."""

from ballmoves.balls import ascending
from ballmoves.errors import NoEnds
from ballmoves.kept import gate, line_from, only_point
from ballmoves.moves import STILL, back, bracket, scaled, size, under_root
from ballmoves.primes import power_of, times_in
from ballmoves.roads import on_road, steps, towards


def near_root(p, n):
    """An integer whose square is near, but not equal to n, which is not 0; None if n is no square by p."""
    scale = power_of(p, times_in(p, n) // 2)
    # If p divides the rest, it is no square, and none is found.
    rest = n // (scale * scale)
    if p > 2:
        roots = [k for k in range(1, p) if (k * k - rest) % p == 0]
    elif rest % 8 == 1:
        roots = [1, 3]
    else:
        roots = []
    for k in roots:
        if (scale * k) ** 2 != n:
            return scale * k
    return None


def ends(p, m):
    """How many ends a move keeps; None if it keeps all."""
    if m == STILL:
        return None
    square = under_root(m)
    if square == 0:
        return 1
    if near_root(p, square) is None:
        return 0
    return 2


def stretching(p, m):
    """A move that stretches and keeps the same two ends as a move."""
    a, b, c, d = m
    # The table of m, twice, less a number: it keeps what m keeps, and its size has many parts for its sum.
    near = near_root(p, under_root(m))
    return scaled(a - d - near, 2 * b, 2 * c, d - a - near)


def toward(p, m, ball, n):
    """The balls n steps from a ball on the ways to the ends that a move keeps, ascending."""
    many = ends(p, m)
    if many is None or many == 0:
        raise NoEnds()
    if many == 1:
        return [towards(p, ball, only_point(m), n)]
    along = stretching(p, m)
    near = gate(p, along, ball)
    left = n - steps(p, ball, near)
    if left <= 0:
        return [on_road(p, ball, near, n)]
    return ascending([line_from(p, one, near, left)[left] for one in (along, back(along))])


def shared_ends(p, m, other):
    """How many ends two moves both keep; None if both keep all."""
    if m == STILL:
        return ends(p, other)
    between = bracket(m, other)
    # So it is with (1, 0, 0, 1), too, which keeps all ends.
    if between == (0, 0, 0, 0):
        return ends(p, m)
    if size(between) == 0:
        return 1
    return 0
