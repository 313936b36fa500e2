"""Counts of balls: of all that are so many steps away, and of those that a move keeps."""

from ballmoves.kept import centre, depth_at, gate, keeps
from ballmoves.moves import STILL
from ballmoves.primes import power_of
from ballmoves.roads import steps


def off(p, ways, n):
    """How many balls are n steps off, the first step being one of so many ways."""
    if n == 0:
        return 1
    return ways * power_of(p, n - 1)


def balls_at(p, n):
    """How many balls are n steps from a ball."""
    return off(p, p + 1, n)


def meeting(p, way, n, k):
    """How many balls are n steps from one and k steps from the other of two balls so many steps apart."""
    away, odd = divmod(n + k - way, 2)
    along = n - away
    if odd or away < 0 or not 0 <= along <= way:
        return 0
    # From where they leave the road they do not go on along it.
    return off(p, p + 1 - (along > 0) - (along < way), away)


def meets(p, one, other, n, k):
    """How many balls are n steps from one ball and k steps from another one."""
    return meeting(p, steps(p, one, other), n, k)


def spine(p, m, ball, n):
    """From a kept ball to the deepest ones, and on: for each of n steps how many balls, their ways off, their depth."""
    least = depth_at(p, m, ball)
    told = centre(p, m)
    if told[0] == "end":
        return [(1, p - (k > 0), least + k) for k in range(n + 1)]
    deepest = told[-1]
    way = deepest - least
    if told[0] == "line":
        rows = [(1, p - (k > 0), least + k) for k in range(way)] + [(1, p - 1 - (way > 0), deepest)]
        return rows + [(2, p - 1, deepest) for _ in range(way, n)]
    last = way + (told[0] == "pair")
    return [(1, p + 1 - (k > 0) - (k < last), min(least + k, deepest)) for k in range(last + 1)]


def kept_off(p, rows, n):
    """How many kept balls are n steps from the ball from which a spine's rows are."""
    return sum([many * off(p, ways, n - k) for k, (many, ways, depth) in enumerate(rows) if 0 <= n - k <= depth])


def kept_counts(p, m, ball, numbers):
    """For each of an ascending list of numbers of steps, how many balls so far from a ball a move keeps."""
    if m == STILL:
        return [balls_at(p, n) for n in numbers]
    near = gate(p, m, ball)
    if not keeps(p, m, near):
        return [0 for _ in numbers]
    # The road from the ball to each kept ball goes by the gate.
    away = steps(p, ball, near)
    rows = spine(p, m, near, numbers[-1])
    return [kept_off(p, rows, n - away) for n in numbers]


def kept_at(p, m, ball, n):
    """How many of the balls that are n steps from a ball a move keeps."""
    return kept_counts(p, m, ball, [n])[0]


def kept_within(p, m, ball, n):
    """How many of the balls that are at most n steps from a ball a move keeps."""
    return sum(kept_counts(p, m, ball, list(range(n + 1))))


def from_some(p, m, ball):
    """How the counts of kept balls that are n steps from a ball go on."""
    if m == STILL:
        return ("all",)
    near = gate(p, m, ball)
    if not keeps(p, m, near):
        return ("none", 0)
    away, least, told = steps(p, ball, near), depth_at(p, m, near), centre(p, m)
    if told[0] == "end":
        # A ball that is not kept has a gate of depth 0.
        if least > 0:
            return ("half", least + 1, least)
        return ("half", away, -away)
    deepest = told[-1]
    last = away + deepest - least + deepest
    if told[0] == "line":
        return ("many", last + 1, 2 * power_of(p, deepest))
    return ("none", last + (told[0] == "pair") + 1)
