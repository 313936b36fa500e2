import unittest
from fractions import Fraction
from itertools import product
from math import gcd

from ballmoves.grids import balls_of, grid_form, grid_of, is_same_grid, is_whole_at, told_by
from ballmoves.leads import led, moving, told_at
from ballmoves.moves import after, back, is_move, move, power, size
from brute import ROOT, make
from some_moves import some_balls
from test_moves import MOVES, STILL
from values import same, unchanged

PRIMES = (2, 3, 5, 7, 97)
WHOLE = [STILL, (1, 1, 0, 1), (0, 1, 1, 0), (0, 1, -1, 0), (2, 1, 1, 1), (1, 0, -7, 1), (1, 0, 0, -1), (5, 7, 2, 3)]
GREAT_SIZES = [(101, 0, 0, 1), (1, 5, 103, 1), (999983, 2, 0, 1), (7, 3, 999, -999999), (0, 1, -104729, 3)]


def times(one, other):
    (a, b, c, d), (e, f, g, h) = one, other
    return (a * e + b * g, a * f + b * h, c * e + d * g, c * f + d * h)


def slow_told(t, m):
    """The table of m told at t, in Fractions."""
    a, b, c, d = t
    n = Fraction(a * d - b * c)
    return times((d / n, -b / n, -c / n, a / n), times(m, t))


def is_form(t):
    a, b, c, d = t
    return is_move(t) and c == 0 and a > 0 and d > 0 and 0 <= b < a and gcd(a, b, d) == 1


def many_pairs():
    """Lists of pairs of a prime and a ball."""
    few = {p: some_balls(p)[:7] for p in (2, 3)}
    lists = [[(2, one), (3, other)] for one in few[2] for other in few[3]]
    lists += [[(p, ball)] for p in PRIMES for ball in some_balls(p)]
    lists += [[(p, some_balls(p)[k]) for p in PRIMES] for k in range(10)]
    return lists + [[], [(97, make(97, 4, Fraction(-5, 7))), (2, make(2, 40, Fraction(1, 3 * 2 ** 40)))],
                    [(5, (-40, (0, 1))), (3, (40, (1, 1)))]]


class Told(unittest.TestCase):
    def test_told_by(self):
        for t in MOVES:
            for m in MOVES:
                found = unchanged(self, told_by, t, m)
                self.assertTrue(is_move(found))
                table = slow_told(t, m)
                self.assertTrue(all(x * w == y * v for x, v in zip(found, table) for y, w in zip(found, table)))
                same(self, told_by(STILL, m), m)
        same(self, told_by((2, 0, 0, 1), (1, 1, 0, 1)), (2, 1, 0, 2))

    def test_whole(self):
        for t in MOVES + WHOLE:
            for m in MOVES + WHOLE:
                same(self, unchanged(self, is_whole_at, t, [m]), abs(size(told_by(t, m))) == 1)
        for t in WHOLE:
            same(self, is_whole_at(t, WHOLE), True)
            same(self, is_whole_at(t, tuple(WHOLE)), True)
            for k in range(4):
                same(self, is_whole_at(t, WHOLE[:k] + [(2, 0, 0, 1)] + WHOLE[k:4]), False)
        same(self, is_whole_at((2, 0, 0, 1), [(2, -4, 1, 0)]), True)
        same(self, is_whole_at((2, 0, 0, 1), [(2, -4, 1, 0), (0, 1, 1, 0)]), False)
        same(self, is_whole_at(STILL, [(3, 0, 0, 1)]), False)

    def test_same_grid(self):
        for t in MOVES:
            for u in WHOLE:
                same(self, unchanged(self, is_same_grid, t, after(t, u)), True)
                same(self, is_same_grid(after(t, u), t), True)
                for m in MOVES:
                    same(self, is_whole_at(after(t, u), [m]), is_whole_at(t, [m]))
            for other in MOVES:
                same(self, is_same_grid(t, other), grid_form(t) == grid_form(other))
        same(self, is_same_grid(STILL, (2, 0, 0, 1)), False)
        same(self, is_same_grid((2, 1, 0, 1), (2, 0, 0, 1)), False)
        same(self, is_same_grid((3, 1, 0, 1), (3, 4, 0, 1)), True)


class Balls(unittest.TestCase):
    def test_balls_of(self):
        for t in MOVES:
            found = unchanged(self, balls_of, [3, 2, 97, 3], t)
            same(self, found, [led(p, t, ROOT) for p in (3, 2, 97, 3)])
            same(self, balls_of((3, 2, 97, 3), t), found)
        same(self, balls_of([], STILL), [])
        same(self, balls_of([2, 3], (6, 5, 0, 1)), [(1, (1, 1)), (1, (2, 1))])

    def test_grid_of(self):
        for pairs in many_pairs():
            found = unchanged(self, grid_of, pairs)
            self.assertTrue(is_form(found), (pairs, found))
            same(self, grid_of(tuple(pairs[::-1])), found)
            told = dict(pairs)
            for p in (2, 3, 5, 7, 11, 97):
                same(self, led(p, found, ROOT), told.get(p, ROOT))
            a, b, _, d = found
            reach, left = Fraction(1), d
            for p, (n, q) in pairs:
                reach *= Fraction(p) ** n
                while left % p == 0:
                    left = left // p
            self.assertEqual((Fraction(a, d), left), (reach, 1))

    def test_named_grids(self):
        same(self, grid_of([]), STILL)
        same(self, grid_of([(2, ROOT), (97, ROOT)]), STILL)
        same(self, grid_of([(97, (1, (96, 1)))]), (97, 96, 0, 1))
        same(self, grid_of([(2, (0, (1, 2)))]), (2, 1, 0, 2))
        same(self, grid_of([(2, (0, (1, 2))), (3, (0, (1, 3)))]), (6, 5, 0, 6))
        same(self, grid_of([(2, (-3, (0, 1)))]), (1, 0, 0, 8))
        same(self, grid_of([(2, (2, (3, 1))), (3, (-1, (1, 9))), (5, (1, (0, 1)))]), (60, 55, 0, 9))

    def test_grid_form(self):
        for t in MOVES + WHOLE + GREAT_SIZES + [power(MOVES[7], 9), moving(2, (5, (1, 1)), (-3, (1, 16))),
                                                told_at(97, MOVES[10], (3, (5, 97)))]:
            found = unchanged(self, grid_form, t)
            self.assertTrue(is_form(found), (t, found))
            self.assertEqual(abs(size(after(back(t), found))), 1)
            same(self, grid_form(found), found)
            for u in WHOLE:
                same(self, grid_form(after(t, u)), found)

    def test_no_two_forms_tell_one_grid(self):
        forms = [t for t in product(range(1, 5), range(4), [0], range(1, 5)) if is_form(t)]
        for one in forms:
            same(self, grid_form(one), one)
            for other in forms:
                same(self, is_same_grid(one, other), one == other)

    def test_balls_tell_the_form(self):
        for m in MOVES[:10] + [move(0, (1, 6), 35, 2), (6, 5, 9, 2), (4, 1, -6, 5)]:
            t = grid_form(m)
            pairs = [(p, led(p, m, ROOT)) for p in range(2, 98) if all(p % k for k in range(2, p))]
            same(self, balls_of([p for p, _ in pairs], t), [ball for _, ball in pairs])
            same(self, grid_of(pairs), t)

    def test_new_lists(self):
        balls_of([2], STILL).clear()
        same(self, balls_of([2], STILL), [ROOT])


if __name__ == "__main__":
    unittest.main()
