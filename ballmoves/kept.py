"""The balls that a move keeps, how deep they lie and round what centre, and the line of a move that stretches."""

from ballmoves.balls import ROOT, is_ball, neighbours
from ballmoves.errors import NotKept, NotOnLine
from ballmoves.forms import is_told
from ballmoves.fractions import is_number
from ballmoves.kinds import gate_ball, led_steps, stretch
from ballmoves.leads import led, told_at
from ballmoves.moves import STILL, size, under_root
from ballmoves.points import FAR, is_point, point
from ballmoves.primes import times_in
from ballmoves.roads import on_road


def on_line(p, m, ball):
    """Whether a move stretches and a ball is on its line."""
    length = stretch(p, m)
    return length > 0 and led_steps(p, m, ball) == length


def line_from(p, m, ball, k):
    """The ball of the line and the k balls onward behind it, as a tuple."""
    if not on_line(p, m, ball):
        raise NotOnLine()
    length = stretch(p, m)
    found = [ball]
    while len(found) <= k:
        here = found[-1]
        there = led(p, m, here)
        for step in range(min(length, k + 1 - len(found))):
            found.append(on_road(p, here, there, step + 1))
    return tuple(found)


def keeps(p, m, ball):
    """Whether a move keeps a ball."""
    return led(p, m, ball) == ball


def gate(p, m, ball):
    """The nearest ball that a move keeps, or the nearer one that it exchanges, or the nearest one of its line."""
    return gate_ball(p, m, ball)


def depth_at(p, m, ball):
    """The depth of a ball by a move other than (1, 0, 0, 1); -1 if the ball is not kept."""
    told = told_at(p, m, ball)
    if size(told) % p == 0:
        return -1
    a, b, c, d = told
    return min([times_in(p, number) for number in (b, c, a - d) if number != 0])


def depth(p, m, ball):
    """How many steps around a kept ball all balls are kept; None if all balls are kept."""
    if m == STILL:
        return None
    found = depth_at(p, m, ball)
    if found < 0:
        raise NotKept()
    return found


def only_point(m):
    """The point that a move keeps if it keeps just one."""
    a, _, c, d = m
    if c == 0:
        return FAR
    return point(a - d, 2 * c)


def climbed(p, m, ball):
    """The ball to which one climbs from a kept ball, and its neighbours that are as deep."""
    here = ball
    while True:
        r = depth_at(p, m, here)
        depths = [(depth_at(p, m, other), other) for other in neighbours(p, here)]
        deeper = [other for other_r, other in depths if other_r > r]
        if deeper == []:
            return (here, [other for other_r, other in depths if other_r == r])
        here = deeper[0]


def centre(p, m):
    """That round which the kept balls of a move lie; None if all balls are kept."""
    if m == STILL:
        return None
    start = gate_ball(p, m, ROOT)
    if not keeps(p, m, start):
        raise NotKept()
    if under_root(m) == 0:
        return ("end", only_point(m))
    ball, others = climbed(p, m, start)
    r = depth_at(p, m, ball)
    if len(others) == 0:
        return ("ball", ball, r)
    if len(others) == 2:
        return ("line", ball, r)
    if others[0][0] < ball[0]:
        return ("pair", others[0], ball, r)
    return ("pair", ball, others[0], r)


def has_centre_form(p, value):
    """Whether any value is of the form that centre returns."""
    if is_told(value, "end", 1):
        return is_point(value[1])
    if is_told(value, "pair", 3):
        return is_ball(p, value[1]) and is_ball(p, value[2]) and is_number(value[3])
    if is_told(value, "ball", 2) or is_told(value, "line", 2):
        return is_ball(p, value[1]) and is_number(value[2])
    return False


def judge_centre(p, m, value):
    """None if any value tells the centre of a move rightly, else its first fault."""
    if not has_centre_form(p, value):
        return ("form",)
    right = centre(p, m)
    if value == right:
        return None
    # Of a line any ball may be told.
    if right[0] == value[0] == "line" and right[2] == value[2] == depth_at(p, m, value[1]):
        return None
    return ("wrong",)
