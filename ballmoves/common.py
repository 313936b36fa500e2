"""Balls that all moves of a list keep."""

from ballmoves.balls import ROOT, about, ascending, within
from ballmoves.errors import TooMany
from ballmoves.kept import depth_at, gate, keeps
from ballmoves.leads import told_at
from ballmoves.moves import STILL
from ballmoves.roads import steps

MOST_COMMON = 2000


def nearest_common(p, moves, ball):
    """The ball that all moves keep with the fewest steps from a ball; None if they keep none in common."""
    found = [gate(p, m, ball) for m in moves]
    # If two moves keep a ball in common, the farther gate is one.
    farthest = max(found, key=lambda near: steps(p, ball, near))
    if all([keeps(p, m, farthest) for m in moves]):
        return farthest
    return None


def common_neighbours(p, moves, ball):
    """The neighbours, kept by all moves, of a ball that they keep."""
    found = []
    # Told at the ball's grid, a move keeps the ball about it if p divides c, and the ball k within it if, but for
    # what p divides, it leads k to k.
    tables = [told_at(p, m, ball) for m in moves]
    if all([c % p == 0 for a, b, c, d in tables]):
        found.append(about(p, ball))
    for k, inner in enumerate(within(p, ball)):
        if all([(c * k * k + (d - a) * k - b) % p == 0 for a, b, c, d in tables]):
            found.append(inner)
    return found


def common_balls(p, moves, ball, n):
    """All balls that all moves keep and that are at most n steps from a ball, ascending."""
    near = nearest_common(p, moves, ball)
    if near is None or steps(p, ball, near) > n:
        return []
    found = {near: True}
    layer = [near]
    # All others are so much farther away as they are steps from the nearest one.
    for _ in range(n - steps(p, ball, near)):
        edge = []
        for old in layer:
            edge.extend([other for other in common_neighbours(p, moves, old) if other not in found])
            if len(found) + len(edge) > MOST_COMMON:
                raise TooMany()
        for other in edge:
            found[other] = True
        layer = edge
    return ascending(list(found))


def keeping(p, moves, n):
    """Whether all moves keep all balls at most n steps from (0, (0, 1))."""
    return all([m == STILL or depth_at(p, m, ROOT) >= n for m in moves])
