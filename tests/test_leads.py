import random
import unittest
from fractions import Fraction

from ballmoves.balls import is_ball, neighbours
from ballmoves.leads import led, moving, told_at
from ballmoves.moves import after, back, is_move, size
from ballmoves.roads import steps
from brute import ROOT, count, holds, is_near, make, tree
from test_moves import MOVES, STILL
from values import same

FAR_BALLS = [(40, (12345, 1)), (-40, (0, 1)), (40, (0, 1)), (-3, (0, 1))]


def some_balls(p):
    deep = make(p, 40, Fraction(-1, p ** 40))
    return list(tree(p, ROOT, 2))[:16] + FAR_BALLS + [deep, make(p, 40, Fraction(5, 7 if p != 7 else 11))]


def times(one, other):
    """The product of two tables."""
    (a, b, c, d), (e, f, g, h) = one, other
    return (a * e + b * g, a * f + b * h, c * e + d * g, c * f + d * h)


def grid(p, ball):
    """The table whose columns make a ball's grid."""
    return (Fraction(p) ** ball[0], Fraction(*ball[1]), Fraction(0), Fraction(1))


def told(p, m, one, other):
    """The table of m, told from the grid of one to the grid of other."""
    a, b, c, d = grid(p, other)
    return times((1 / a, -b / a, c, d), times(m, grid(p, one)))


def makes_alike(p, table):
    """Whether a table leads the pairs without p below to just these, times some one fraction."""
    a, b, c, d = table
    least = min(count(p, part) for part in table if part != 0)
    return count(p, a * d - b * c) == 2 * least


class Led(unittest.TestCase):
    def test_grids_are_alike(self):
        for p in (2, 3, 97):
            for m in MOVES + [(p, 0, 0, 1), (1, 0, p, p ** 2), (1, p, p ** 3, -1), (1, 0, 1, p ** 3), (1, 1, 1, -p ** 4)]:
                for one in some_balls(p):
                    found = led(p, m, one)
                    self.assertTrue(is_ball(p, found), (p, m, one))
                    self.assertTrue(makes_alike(p, told(p, m, one, found)), (p, m, one))

    def test_kinds(self):
        same(self, led(2, (1, 0, 0, 2), ROOT), (-1, (0, 1)))
        same(self, led(2, (0, 1, 1, 0), (2, (0, 1))), (-2, (0, 1)))
        same(self, led(2, STILL, (2, (3, 1))), (2, (3, 1)))

    def test_steps_stay(self):
        for p in (2, 3):
            for m in MOVES:
                for one in some_balls(p)[::2]:
                    self.assertEqual({led(p, m, other) for other in neighbours(p, one)}, set(neighbours(p, led(p, m, one))))
                    for other in some_balls(p)[::3]:
                        self.assertEqual(steps(p, led(p, m, one), led(p, m, other)), steps(p, one, other))

    def test_one_behind_the_other(self):
        for p in (2, 5):
            for m in MOVES:
                for n in MOVES[::2]:
                    for one in some_balls(p)[::3]:
                        self.assertEqual(led(p, after(m, n), one), led(p, m, led(p, n, one)))
                        self.assertEqual(led(p, back(m), led(p, m, one)), one)

    def test_without_a_lower_line(self):
        for p in (2, 3):
            for m in [(1, 1, 0, 1), (3, -5, 0, 7), (4, 1, 0, 9), (1, 0, 0, -6)]:
                for one in some_balls(p):
                    found = led(p, m, one)
                    for k in range(4):
                        x = Fraction(*one[1]) + Fraction(k, 5) * Fraction(p) ** (one[0] - 1)
                        y = (m[0] * x + m[1]) / m[3]
                        self.assertIs(holds(p, one, x), holds(p, found, y))


class ToldAt(unittest.TestCase):
    def test_table(self):
        for p in (2, 3, 97):
            for m in MOVES:
                for one in some_balls(p):
                    found = told_at(p, m, one)
                    self.assertTrue(is_move(found))
                    a, b, c, d = told(p, m, one, one)
                    self.assertTrue(all(x * w == y * v for x, v in zip(found, (a, b, c, d))
                                        for y, w in zip(found, (a, b, c, d))))

    def test_at_the_first_ball(self):
        for m in MOVES:
            same(self, told_at(2, m, ROOT), m)

    def test_kept_balls(self):
        for p in (2, 3):
            for m in MOVES:
                for one in some_balls(p):
                    kept = is_near(p, Fraction(size(told_at(p, m, one))), 1)
                    self.assertIs(led(p, m, one) == one, not kept)


class Moving(unittest.TestCase):
    def test_any_two(self):
        for p in (2, 3, 97):
            for one in some_balls(p):
                for other in some_balls(p):
                    found = moving(p, one, other)
                    self.assertTrue(is_move(found))
                    self.assertEqual(led(p, found, one), other)

    def test_equal_ones(self):
        for one in some_balls(2):
            self.assertEqual(led(2, moving(2, one, one), one), one)

    def test_what_was_led(self):
        chance = random.Random(7)
        for p in (2, 97):
            one = ROOT
            for _ in range(60):
                one = led(p, chance.choice(MOVES), one)
                self.assertTrue(is_ball(p, one))
                self.assertEqual(led(p, moving(p, one, ROOT), one), ROOT)


if __name__ == "__main__":
    unittest.main()
