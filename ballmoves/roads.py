"""Roads between balls, ways towards points, sides, and least trees."""

from ballmoves.balls import ascending, ball_at, common_n, is_ball, is_in
from ballmoves.errors import TooMany
from ballmoves.fractions import minus
from ballmoves.points import FAR, fraction_of
from ballmoves.primes import parts

MOST_BALLS = 400


def road(p, one, other):
    """The balls of the one road from one to other, as a tuple."""
    return tuple([on_road(p, one, other, k) for k in range(steps(p, one, other) + 1)])


def steps(p, one, other):
    """How many steps the road between two balls has."""
    return one[0] + other[0] - 2 * common_n(p, one, other)


def up_and_down(p, ball, top, x, k):
    """The ball k steps from a ball, up to n = top first, and then down within what has x."""
    if k <= ball[0] - top:
        return ball_at(p, ball[0] - k, ball[1])
    return ball_at(p, 2 * top - ball[0] + k, x)


def on_road(p, one, other, k):
    """The ball k steps from one on the road to other."""
    return up_and_down(p, one, common_n(p, one, other), other[1], k)


def fork(p, one, other, third):
    """The ball on the roads between each two of three balls."""
    tops = [(common_n(p, one, other), one), (common_n(p, other, third), other), (common_n(p, third, one), third)]
    # Two of the balls about two are equal, and the third one lies in them.
    n, below = max(tops, key=lambda top: top[0])
    return ball_at(p, n, below[1])


def towards(p, ball, point, k):
    """The ball k steps from a ball towards a point."""
    if point == FAR:
        return ball_at(p, ball[0] - k, ball[1])
    x = fraction_of(point)
    between = minus(x, ball[1])
    top = ball[0]
    if between[0] != 0:
        top = min(top, parts(p, between))
    return up_and_down(p, ball, top, x, k)


def are_neighbours(p, one, other):
    """Whether one of two balls is the one about the other."""
    if one[0] == other[0] - 1:
        return is_in(p, other, one)
    return one[0] == other[0] + 1 and is_in(p, one, other)


def is_side(p, value):
    """Whether any value is a side: a tuple of two neighbouring balls."""
    if not isinstance(value, tuple) or len(value) != 2:
        return False
    u, v = value
    return is_ball(p, u) and is_ball(p, v) and are_neighbours(p, u, v)


def on_side(p, side, ball):
    """Whether a ball has fewer steps to the second ball of a side than to the first one."""
    return steps(p, ball, side[1]) < steps(p, ball, side[0])


def are_apart(p, one, other):
    """Whether no ball is on both of two sides."""
    # A road within one side, from a shared ball to the side's first ball, would cross the other side's step.
    return not on_side(p, one, other[1]) and not on_side(p, other, one[1])


def lies_in(p, one, other):
    """Whether all balls of the side one are on the side other."""
    return are_apart(p, one, (other[1], other[0]))


def least_tree(p, balls):
    """All balls on the roads between each two of a list of balls, ascending."""
    found = {}
    for other in balls:
        for k in range(steps(p, other, balls[0]) + 1):
            step = on_road(p, other, balls[0], k)
            # From a ball that is known the road on is known, too.
            if step in found:
                break
            found[step] = True
            if len(found) > MOST_BALLS:
                raise TooMany()
    return ascending(list(found))
