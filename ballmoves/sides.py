"""Four sides of two moves: what shows that no word of them keeps a ball."""

from ballmoves.kinds import stretch
from ballmoves.leads import led
from ballmoves.lines import lines
from ballmoves.moves import back
from ballmoves.roads import are_apart, is_side, lies_in, on_road


def two_sides(p, m, ball):
    """The sides of a move, so many balls of its line between them as it stretches by, from the given one on."""
    behind = led(p, back(m), ball)
    ahead = led(p, m, ball)
    return ((ball, on_road(p, ball, behind, 1)), (on_road(p, ahead, ball, 1), ahead))


def four_sides(p, g, h):
    """Four sides of two moves that stretch; None if there are none."""
    told = lines(p, g, h)
    if told[0] == "apart":
        return two_sides(p, g, told[2]) + two_sides(p, h, told[3])
    if told[0] != "along" or told[1] >= min(stretch(p, g), stretch(p, h)):
        return None
    # The rows of both begin with the shared balls, as each of the moves leads.
    way, first, last = told[2:]
    if way == -1:
        return two_sides(p, g, first) + two_sides(p, h, last)
    return two_sides(p, g, first) + two_sides(p, h, first)


def is_sides(p, value, many):
    """Whether any value is a tuple of so many sides."""
    return isinstance(value, tuple) and len(value) == many and all([is_side(p, side) for side in value])


def leads_well(p, m, one, other):
    """Whether a move leads each ball that is not on one side to a ball on the other side."""
    u, v = one
    return lies_in(p, (led(p, m, v), led(p, m, u)), other)


def sides_fault(p, moves, value):
    """None if any value is two sides of each move of a list, as four sides are of two; else its first fault."""
    many = 2 * len(moves)
    if not is_sides(p, value, many):
        return ("form",)
    for i in range(many):
        for j in range(i + 1, many):
            if not are_apart(p, value[i], value[j]):
                return ("meet", i, j)
    for k, m in enumerate(moves):
        if not leads_well(p, m, value[2 * k], value[2 * k + 1]):
            return ("led", k)
    return None


def judge_sides(p, g, h, value):
    """None if any value is four sides of two moves, else its first fault."""
    return sides_fault(p, (g, h), value)
