"""Balls spelled by the sides of moves: each one led by one word from a ball that is on none of the sides."""

from ballmoves.leads import led
from ballmoves.moves import back
from ballmoves.roads import on_side


def tight_sides(p, moves, sides):
    """The sides, two of each move, of which a move leads what is not on the first one just to the second one."""
    found = []
    for k, m in enumerate(moves):
        u, v = sides[2 * k]
        found += [(u, v), (led(p, m, v), led(p, m, u))]
    return tuple(found)


def tight(p, g, h, sides):
    """The tight sides of four sides of two moves."""
    return tight_sides(p, (g, h), sides)


def numbers_of(p, sides, ball):
    """The numbers of the sides on which a ball is."""
    return [number for number, side in enumerate(sides) if on_side(p, side, ball)]


def spelled_by(p, moves, sides, ball):
    """The word, and the ball on none of the tight sides, that it leads to a ball."""
    told = tight_sides(p, moves, sides)
    word = []
    here = ball
    found = numbers_of(p, told, here)
    while found != []:
        k = found[0] // 2
        # A move leads onto its second side, its back onto the first one.
        if found[0] == 2 * k:
            word.append((k, -1))
            here = led(p, moves[k], here)
        else:
            word.append((k, 1))
            here = led(p, back(moves[k]), here)
        found = numbers_of(p, told, here)
    return (tuple(word), here)


def spelled(p, g, h, sides, ball):
    """The word of two moves, and the ball on none of their tight sides, that it leads to a ball."""
    return spelled_by(p, (g, h), sides, ball)
