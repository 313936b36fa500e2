"""Middles of lists of balls, sums of steps, and trees."""

from ballmoves.balls import about, ascending, ball_at, common_n
from ballmoves.roads import on_road, on_side, road, steps


def farthest(p, balls, ball):
    """A ball of a list with the most steps from a ball."""
    return max(balls, key=lambda other: steps(p, ball, other))


def far(p, balls, ball):
    """The greatest number of steps from a ball to one of a list."""
    return steps(p, ball, farthest(p, balls, ball))


def longest(p, balls):
    """Two balls of a list with the most steps between them."""
    # In a tree the farthest ball from any ball begins a longest road.
    one = farthest(p, balls, balls[0])
    return (one, farthest(p, balls, one))


def reach(p, balls):
    """The greatest number of steps between two balls of a list."""
    one, other = longest(p, balls)
    return steps(p, one, other)


def middle(p, balls):
    """The ball, or the pair of balls, with the least far."""
    one, other = longest(p, balls)
    many = steps(p, one, other)
    half = on_road(p, one, other, many // 2)
    if many & 1 == 0:
        return ("ball", half)
    mate = on_road(p, one, other, many // 2 + 1)
    if half[0] < mate[0]:
        return ("pair", half, mate)
    return ("pair", mate, half)


def total(p, balls, ball):
    """The sum of the steps from a ball to all of a list."""
    return sum([steps(p, ball, other) for other in balls])


def least_about_many(p, balls, ball, many):
    """The ball with the greatest n that has all fractions of a ball, and of at least so many of a list."""
    tops = sorted([common_n(p, ball, other) for other in balls], reverse=True)
    return ball_at(p, tops[many - 1], ball[1])


def least_total(p, balls):
    """The least sum of steps that a ball has, and all balls that have it."""
    half = len(balls) // 2
    over_half = [least_about_many(p, balls, ball, half + 1) for ball in balls]
    lowest = max(over_half, key=lambda ball: ball[0])
    found = {}
    # Below it go on the balls that have just one half of the list in them.
    for ball in balls:
        end = least_about_many(p, balls, ball, len(balls) - half)
        if end[0] >= lowest[0]:
            for step in road(p, lowest, end):
                found[step] = True
    return (total(p, balls, lowest), ascending(list(found)))


def members_of(balls):
    """The dict that has each ball of a list once."""
    return {ball: True for ball in balls}


def hang_together(p, balls):
    """Whether a list has, with each two of its balls, those of the road between them."""
    members = members_of(balls)
    # Each piece has just one ball without the one about it.
    return len([ball for ball in members if about(p, ball) not in members]) <= 1


def counts_in(p, tree):
    """How many neighbours each ball of a tree has in it."""
    counts = {ball: 0 for ball in tree}
    for ball in tree:
        outer = about(p, ball)
        if outer in counts:
            counts[outer] += 1
            counts[ball] += 1
    return counts


def leaves(p, tree):
    """The balls of a tree that have at most one neighbour in it, ascending."""
    counts = counts_in(p, tree)
    return ascending([ball for ball in tree if counts[ball] <= 1])


def peeled(p, tree):
    """The other balls of a tree than its leaves, or all, if it has at most two."""
    if len(tree) <= 2:
        return ascending(tree)
    counts = counts_in(p, tree)
    return ascending([ball for ball in tree if counts[ball] > 1])


def pieces(p, tree, ball):
    """The trees into which a tree falls without a ball, by the ball's neighbours."""
    fallen = {}
    for other in ascending(tree):
        if other != ball:
            first = on_road(p, ball, other, 1)
            fallen[first] = fallen.get(first, []) + [other]
    return [fallen[first] for first in ascending(list(fallen))]


def cut(p, tree, side):
    """The balls of a tree that are on a side, ascending."""
    return ascending([ball for ball in tree if on_side(p, side, ball)])
