"""Many sides: two of each move of a list; and what words of such moves can be told by."""

from ballmoves.balls import ROOT
from ballmoves.kinds import stretch
from ballmoves.leads import led
from ballmoves.lines import lines
from ballmoves.moves import power
from ballmoves.roads import on_road, steps
from ballmoves.sides import sides_fault, two_sides
from ballmoves.spelling import numbers_of, spelled_by, tight, tight_sides
from ballmoves.words import word_move


def judge_many(p, moves, value):
    """None if any value is many sides of a list of moves, else its first fault."""
    return sides_fault(p, moves, value)


def row_balls(p, m, other):
    """The ends of what a move's line shares with another one, or its ball nearest to it; [] if they share an end."""
    told = lines(p, m, other)
    if told[0] == "apart":
        return [told[2]]
    if told[0] == "along":
        return [told[3], told[4]]
    return []


def spot(p, m, start, ball):
    """How many steps onward of one ball of a move's line another one of its balls is."""
    way = steps(p, start, ball)
    if way == 0 or on_road(p, start, ball, 1) == on_road(p, start, led(p, m, start), 1):
        return way
    return -way


def sides_beside(p, m, others):
    """Two sides of a move that have no ball of the lines of others; None if there are none."""
    balls = []
    for other in others:
        near = row_balls(p, m, other)
        if near == []:
            return None
        balls += near
    spots = [spot(p, m, balls[0], ball) for ball in balls]
    if max(spots) - min(spots) >= stretch(p, m):
        return None
    return two_sides(p, m, balls[spots.index(min(spots))])


def many_sides(p, moves):
    """Many sides of a list of moves; None if there are none."""
    if not all([stretch(p, m) > 0 for m in moves]):
        return None
    found = ()
    for k in range(len(moves)):
        sides = sides_beside(p, moves[k], list(moves[:k]) + list(moves[k + 1:]))
        if sides is None:
            return None
        found += sides
    return found


def tight_many(p, moves, sides):
    """The tight sides of many sides."""
    return tight_sides(p, moves, sides)


def spelled_many(p, moves, sides, ball):
    """The word of moves, and the ball on none of their tight sides, that it leads to a ball."""
    return spelled_by(p, moves, sides, ball)


def outside(p, sides):
    """The ball on none of some sides, no two of which meet, with the fewest steps from (0, (0, 1))."""
    found = numbers_of(p, sides, ROOT)
    if found == []:
        return ROOT
    return sides[found[0]][0]


def word_of(p, moves, sides, m):
    """The shortened word whose move is m; None if there is none."""
    start = outside(p, tight_sides(p, moves, sides))
    word = spelled_by(p, moves, sides, led(p, m, start))[0]
    if word_move(moves, word) == m:
        return word
    return None


def told_over(p, moves, sides, others):
    """The words whose moves others are, or the number of the first one that is no word's move."""
    words = [word_of(p, moves, sides, m) for m in others]
    if None in words:
        return ("strange", words.index(None))
    return ("words", words)


def grown(p, g, h, sides, n):
    """So many words of two moves with four sides, and many sides of these words' moves."""
    words, many = [], []
    for k in range(n):
        words.append(((1, 1),) * k + ((0, 1),) + ((1, -1),) * k)
        along = power(h, k)
        many += [(led(p, along, u), led(p, along, v)) for u, v in tight(p, g, h, sides)[:2]]
    return (words, tuple(many))
