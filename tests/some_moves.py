"""Moves for the tests: of each kind, plain ones and far ones, at any prime."""

from fractions import Fraction

from ballmoves.moves import after, back, move
from brute import make
from test_moves import MOVES, STILL

UNLIKE = {2: 3, 3: 5, 5: 2, 7: 3, 11: 2, 97: 5}


def moves_at(p):
    """Moves that keep, exchange and stretch at p, also far from the first ball."""
    q, square = UNLIKE[p], p * p
    plain = [(p, 0, 0, 1), (1, 0, 0, square), (0, p, 1, 0), (0, 1, 1, 0), (0, 1, -1, 1), (1, square, 0, 1), (q, 0, 0, 1),
             (1, 0, 0, 1 + square), (1, p, p, 1 + square), (0, p ** 3, 1, 0), (1, 1, p, -1), (1, 1, 1, 0), (0, q, 1, 0),
             (0, 1, -p, 0), (1, 0, p, 1), (2, 1, 1, 1), (0, square * q, 1, 0), (p ** 3, 1, 0, 1), (1, p, p ** 3, -1)]
    rounds = [move(p, 1, 0, 1), move(1, Fraction(1, p).as_integer_ratio(), 0, square), (q, 1, 1, p)]
    made = [after(t, after(m, back(t))) for t in rounds for m in plain[::4] + plain[1::6]]
    return MOVES + plain + made


def some_balls(p):
    """Balls near the first one, and some that are far."""
    near = [(0, (0, 1)), (1, (1, 1)), (1, (0, 1)), (-1, (0, 1)), (0, (1, p)), (2, (p + 1, 1)), (-2, (1, p ** 3))]
    return near + [(7, (0, 1)), make(p, 6, Fraction(-1, p ** 3)), make(p, -9, Fraction(1, p ** 12))]
