"""The lines of two moves that stretch."""

from ballmoves.balls import ROOT
from ballmoves.errors import NotStretching
from ballmoves.kept import gate, on_line
from ballmoves.kinds import stretch
from ballmoves.leads import led
from ballmoves.moves import back, bracket, size
from ballmoves.points import point
from ballmoves.roads import on_road, steps


def look_at_stretches(p, g, h):
    """Looks whether two moves stretch, and raises NotStretching if one does not."""
    for number, m in enumerate((g, h)):
        if stretch(p, m) == 0:
            raise NotStretching(number)


def led_to_nothing(table):
    """The point that a table (a, b, c, -a) of size 0, not 0 all over, leads to 0."""
    a, b = table[:2]
    # If b is 0, so is a, and the table leads (x, y) to (0, c x).
    if b == 0:
        return (0, 1)
    return point(-b, a)


def way_from(p, g, h, ball):
    """1 if two moves lead a ball of both lines off by the same step, else -1."""
    ahead = [on_road(p, ball, led(p, m, ball), 1) for m in (g, h)]
    if ahead[0] == ahead[1]:
        return 1
    return -1


def last_shared(p, g, h, ball):
    """The last ball, as g leads, of the balls that both lines share, among them the given one."""
    there = ball
    while on_line(p, h, there):
        there = led(p, g, there)
    return gate(p, h, there)


def lines(p, g, h):
    """How the lines of two moves lie: the same, with a shared end, apart, or along one another."""
    look_at_stretches(p, g, h)
    between = bracket(g, h)
    start = gate(p, g, ROOT)
    if between == (0, 0, 0, 0):
        return ("same", way_from(p, g, h, start))
    if size(between) == 0:
        return ("end", led_to_nothing(between))
    other = gate(p, h, start)
    ball = gate(p, g, other)
    if ball != other:
        return ("apart", steps(p, ball, other), ball, other)
    first = last_shared(p, back(g), h, ball)
    last = last_shared(p, g, h, ball)
    if first == last:
        return ("along", 0, 0, first, last)
    return ("along", steps(p, first, last), way_from(p, g, h, first), first, last)
