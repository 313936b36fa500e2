"""Loads: balls with weights, put together, led, spread to balls so many steps away, and gathered again."""

from ballmoves.balls import ascending, is_ball, neighbours
from ballmoves.counts import balls_at, meeting
from ballmoves.errors import TooMany
from ballmoves.fractions import is_less, is_number
from ballmoves.leads import led
from ballmoves.roads import on_road, steps

MOST_SPREAD = 2000


def is_row(p, value):
    """Whether any value is a tuple of a ball and a weight."""
    if not isinstance(value, tuple) or len(value) != 2:
        return False
    return is_ball(p, value[0]) and is_number(value[1]) and value[1] != 0


def is_ahead(one, other):
    """Whether one ball stands ahead of another one where balls ascend."""
    return one[0] < other[0] or one[0] == other[0] and is_less(one[1], other[1])


def is_load(p, value):
    """Whether any value is a load."""
    if not isinstance(value, tuple) or not all([is_row(p, row) for row in value]):
        return False
    return all([is_ahead(value[k][0], value[k + 1][0]) for k in range(len(value) - 1)])


def summed(rows):
    """The load of pairs of a ball and a weight, in which a ball has the sum of its weights."""
    weights = {}
    for ball, number in rows:
        weights[ball] = weights.get(ball, 0) + number
    return tuple([(ball, weights[ball]) for ball in ascending([ball for ball in weights if weights[ball] != 0])])


def load(p, rows):
    """The load in which each ball has the sum of its weights in a list of pairs."""
    return summed(rows)


def joined_loads(p, one, n, other):
    """The load of one load and n times another one."""
    return summed(list(one) + [(ball, n * number) for ball, number in other])


def weight(load, ball):
    """The weight of a ball in a load."""
    for other, number in load:
        if other == ball:
            return number
    return 0


def led_load(p, m, load):
    """The load of the balls to which a move leads those of a load."""
    return summed([(led(p, m, ball), number) for ball, number in load])


def balls_away(p, ball, n):
    """All balls that are n steps from a ball."""
    edge = [(ball, None)]
    for _ in range(n):
        # A road does not turn back.
        edge = [(other, here) for here, behind in edge for other in neighbours(p, here) if other != behind]
    return [here for here, behind in edge]


def spread(p, load, n):
    """The load in which each ball has the sum of the weights of balls that are n steps from it."""
    if len(load) * balls_at(p, n) > MOST_SPREAD:
        raise TooMany()
    return summed([(other, number) for ball, number in load for other in balls_away(p, ball, n)])


def rule(p, n, k):
    """The pairs (j, c): spread by n and then by k comes to the sum of what is spread by j, c times each."""
    pairs = [(j, meeting(p, j, n, k)) for j in range(n + k + 1)]
    return [(j, many) for j, many in pairs if many > 0]


def walks(p, way, n):
    """How many ways of n steps, turning back or not, lead from a ball to one so many steps from it."""
    if way > n:
        return 0
    # For each number of steps to the ball that is to be reached, how many ways of the present length lead there.
    counts = [1] + [0] * n
    for _ in range(n):
        # One neighbour is nearer, and the other p are farther; of the ball itself all are farther.
        near = counts[1:2] + counts[:n]
        counts = [one + p * other for one, other in zip(near, counts[1:] + [0])]
    return counts[way]


def layers_from(p, load, start):
    """The dicts of the balls of a load with their weights, by their steps from a ball."""
    ways = [steps(p, start, ball) for ball, _ in load]
    found = [{} for _ in range(max(ways) + 1)]
    for way, (ball, number) in zip(ways, load):
        found[way][ball] = number
    return found


def farther(p, start, ball):
    """The neighbours of a ball that are farther from a ball than it is."""
    way = steps(p, start, ball)
    return [other for other in neighbours(p, ball) if steps(p, start, other) > way]


def gathered(p, load):
    """The load that comes to a load if it is spread by 1; None if there is none."""
    if len(load) == 0:
        return ()
    start = load[0][0]
    left = layers_from(p, load, start)
    rows = []
    for way in range(len(left) - 1, 0, -1):
        # What lies farthest out has its weight from the one neighbour nearer in.
        settled = {on_road(p, ball, start, 1): number for ball, number in left[way].items() if number != 0}
        for ball, number in settled.items():
            if not all([left[way].get(other, 0) == number for other in farther(p, start, ball)]):
                return None
            rows.append((ball, number))
            if way > 1:
                inner = on_road(p, ball, start, 1)
                left[way - 2][inner] = left[way - 2].get(inner, 0) - number
    if left[0][start] != 0:
        return None
    return summed(rows)
