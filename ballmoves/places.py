"""Places of the tree: balls, and middles of steps; which one all moves of a list keep."""

from ballmoves.balls import ROOT, is_ball
from ballmoves.forms import is_told
from ballmoves.kept import gate
from ballmoves.kinds import kind, stretch
from ballmoves.leads import led
from ballmoves.roads import is_side, steps
from ballmoves.words import is_word, short_words, word_move

START = ("ball", (0, (0, 1)))


def is_place(p, value):
    """Whether any value is a place."""
    if is_told(value, "ball", 1):
        return is_ball(p, value[1])
    return is_told(value, "pair", 2) and is_side(p, value[1:]) and value[1][0] < value[2][0]


def half_steps(p, one, other):
    """How many half steps lie between two places."""
    if one == other:
        return 0
    halves = [2 * steps(p, u, v) for u in one[1:] for v in other[1:]]
    # From the nearer ball of a pair it is one half step more to its middle.
    return min(halves) + len(one[2:]) + len(other[2:])


def keeps_place(p, m, place):
    """Whether a move leads a place to itself."""
    balls = place[1:]
    there = tuple([led(p, m, ball) for ball in balls])
    return there == balls or there[::-1] == balls


def gate_place(p, m):
    """The place that a move keeps with the fewest half steps from ("ball", (0, (0, 1))); None if it stretches."""
    told = kind(p, m)
    if told[0] == "stretches":
        return None
    if told[0] == "exchanges":
        return ("pair", told[1], told[2])
    return ("ball", gate(p, m, ROOT))


def gates(p, moves):
    """The gate places of all moves."""
    return [gate_place(p, m) for m in moves]


def place(p, moves):
    """A place that all moves keep, or a word of one or two letters whose move stretches."""
    found = gates(p, moves)
    if None not in found:
        # If two moves keep a place in common, the farther gate is one.
        farthest = max(found, key=lambda near: half_steps(p, START, near))
        if all([keeps_place(p, m, farthest) for m in moves]):
            return farthest
    stretching = [word for word in short_words(len(moves)) if stretch(p, word_move(moves, word)) > 0]
    return ("stretches", stretching[0])


def judge_place(p, moves, value):
    """None if any value is a place that all moves keep, or a word whose move stretches; else its first fault."""
    if is_place(p, value):
        for k in range(len(moves)):
            if not keeps_place(p, moves[k], value):
                return ("move", k)
        return None
    if not is_told(value, "stretches", 1) or not is_word(value[1], len(moves)):
        return ("form",)
    if stretch(p, word_move(moves, value[1])) == 0:
        return ("still",)
    return None
