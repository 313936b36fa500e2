"""Balls and their tree, worked out slowly by Python's own Fraction: what the tests compare with."""

from fractions import Fraction
from itertools import combinations

ROOT = (0, (0, 1))


def told(x):
    """A Fraction as a tuple."""
    return (x.numerator, x.denominator)


def count(p, x):
    """How often p is in a Fraction other than 0."""
    times, n, d = 0, x.numerator, x.denominator
    while n % p == 0:
        n, times = n // p, times + 1
    while d % p == 0:
        d, times = d // p, times - 1
    return times


def is_near(p, x, n):
    """Whether a Fraction is 0 or has at least n parts."""
    return x == 0 or count(p, x) >= n


def holds(p, ball, x):
    """Whether a ball has a Fraction."""
    return is_near(p, x - Fraction(*ball[1]), ball[0])


def make(p, n, x):
    """The ball with n that has a Fraction, digit by digit."""
    q = Fraction(0)
    while not is_near(p, x - q, n):
        k = count(p, x - q)
        q += next(part * Fraction(p) ** k for part in range(1, p) if is_near(p, x - q - part * Fraction(p) ** k, k + 1))
    return (n, told(q))


def key(ball):
    return (ball[0], Fraction(*ball[1]))


def around(p, ball):
    """The neighbours of a ball: the one about it, and those within it, ascending."""
    n, q = ball[0], Fraction(*ball[1])
    return [make(p, n - 1, q)] + [(n + 1, told(q + part * Fraction(p) ** n)) for part in range(p)]


def tree(p, start, most):
    """All balls at most so many steps from a ball, each with its steps."""
    found, edge = {start: 0}, [start]
    for k in range(most):
        edge = [ball for old in edge for ball in around(p, old) if ball not in found]
        found.update({ball: k + 1 for ball in edge})
    return found


class Tree:
    """All balls at most so many steps from the ball (0, (0, 1)), with the roads between them."""

    def __init__(self, p, most):
        self.p = p
        self.balls = list(tree(p, ROOT, most))
        self.next = {ball: [other for other in around(p, ball) if other in set(self.balls)] for ball in self.balls}
        self.known = {}

    def roads_from(self, ball):
        """For each ball the one ahead of it on the road from a ball, and the steps of that road."""
        if ball not in self.known:
            found, edge = {ball: (None, 0)}, [ball]
            while edge:
                rows = [(other, old) for old in edge for other in self.next[old] if other not in found]
                found.update({other: (old, found[old][1] + 1) for other, old in rows})
                edge = [other for other, _ in rows]
            self.known[ball] = found
        return self.known[ball]

    def steps(self, one, other):
        return self.roads_from(one)[other][1]

    def road(self, one, other):
        found = [other]
        while found[-1] != one:
            found.append(self.roads_from(one)[found[-1]][0])
        return tuple(found[::-1])

    def hull(self, balls):
        found = set(balls)
        for one, other in combinations(balls, 2):
            found |= set(self.road(one, other))
        return sorted(found, key=key)
