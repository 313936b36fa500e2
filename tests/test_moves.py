import unittest
from fractions import Fraction
from itertools import permutations, product
from math import gcd

from ballmoves.errors import BadMove, SamePoints
from ballmoves.moves import after, back, is_move, led_point, move, power, size, sum_of, three
from ballmoves.points import is_point
from brute import told
from values import GREAT, NEVER, same, unchanged

STILL, HALF, UP, TURN, WIDE = (1, 0, 0, 1), (1, 0, 0, 2), (1, 1, 0, 1), (0, 1, 1, 0), (2, -4, 1, 0)
MOVES = [STILL, HALF, UP, TURN, WIDE, (0, 1, -1, 0), (0, 2, 1, 0), (5, -3, 1, 1), (14, 4, -4, 31), (1, 1, 1, 0),
         (999999, -999998, 123456, 654321), (1, 0, 7, 1), (0, 1, -3, 0), (1, 0, 0, -1)]
POINTS = [(1, 0), (0, 1), (1, 1), (-1, 1), (3, 2), (-7, 4), (4, 1), (10 ** 20 + 1, 3), (1, 10 ** 19)]


def is_right(m):
    """Whether a tuple is a move, by the words of the document."""
    first = next((part for part in m if part != 0), 0)
    return gcd(*m) == 1 and m[0] * m[3] - m[1] * m[2] != 0 and first > 0


def slow_led(a, b, c, d, q):
    """The point to which four Fractions lead a point; None as Fraction stands for far."""
    x = None if q == (1, 0) else Fraction(*q)
    upper, lower = (a, c) if x is None else (a * x + b, c * x + d)
    return (1, 0) if lower == 0 else told(upper / lower)


class MakeMove(unittest.TestCase):
    def test_integers_and_fractions(self):
        values = [0, 1, -2, 6, (1, 2), (-3, 4), (5, 1), (0, 1), (-2, 9)]
        exact = {value: Fraction(*value) if isinstance(value, tuple) else Fraction(value) for value in values}
        for some in product(values, repeat=4):
            a, b, c, d = [exact[value] for value in some]
            if a * d == b * c:
                with self.assertRaises(BadMove):
                    move(*some)
            else:
                found = move(*some)
                self.assertTrue(is_right(found) and all(type(part) is int for part in found), some)
                for q in POINTS[:5]:
                    self.assertEqual(slow_led(*[Fraction(part) for part in found], q), slow_led(a, b, c, d, q))

    def test_named_moves(self):
        same(self, move((1, 2), 0, 0, 1), HALF)
        same(self, move(0, -2, 4, 0), (0, 1, -2, 0))
        same(self, move(-3, 0, 0, -3), STILL)
        same(self, move(-1, 2, 0, 1), (1, -2, 0, -1))
        same(self, move(0, (-1, 999999999), (1, 2), 0), (0, 2, -999999999, 0))
        same(self, move(10 ** 9, 0, 0, 10 ** 9), STILL)
        same(self, move((3, 1), 3, 0, (3, 1)), UP)

    def test_bad_moves(self):
        for value in NEVER + [True, False, (2, 4), (1, 0), (1, -1), [1, 2], "1", (True, 2), (1, True), ((1, 2),), {}]:
            for k in range(4):
                numbers = [1, 0, (0, 1), (1, 2)]
                numbers[k] = value
                with self.assertRaises(BadMove):
                    unchanged(self, move, *numbers)
        for numbers in [(0, 0, 0, 0), (1, 2, 2, 4), ((1, 2), 1, 1, 2), (0, 1, 0, 1), (1, 0, 1, 0), (1, 1, 0, 0), (0, 0, 1, 1)]:
            with self.assertRaises(BadMove):
                move(*numbers)


class IsMove(unittest.TestCase):
    def test_all_small_ones(self):
        for m in product(range(-3, 4), repeat=4):
            self.assertIs(is_move(m), is_right(m), m)

    def test_any_value(self):
        for value in NEVER + [(1, 0, 0), (1, 0, 0, 1, 0), [1, 0, 0, 1], (True, 0, 0, 1), (1, False, 0, 1), (1, 0, 0, True),
                              ((1, 1), 0, 0, 1), (1, 0, 0, None), ("1", 0, 0, 1), (0, 0, 0, 0), (2, 0, 0, 2), (0, -1, 2, 0),
                              (-1, 0, 0, 1), (1, 2, 2, 4), (0, 0, 1, 1), (GREAT, 0, 0, GREAT), {1: 2}, ((1, 0, 0, 1),)]:
            self.assertIs(unchanged(self, is_move, value), False, value)
        for value in MOVES + [(GREAT, 0, 0, 1), (0, 1, -GREAT, 0)]:
            self.assertIs(is_move(value), True, value)


class Moves(unittest.TestCase):
    def test_led_point(self):
        for m in MOVES:
            for q in POINTS:
                found = led_point(m, q)
                same(self, found, slow_led(*[Fraction(part) for part in m], q))
                self.assertTrue(is_point(found))

    def test_to_far_and_from_far(self):
        same(self, led_point(TURN, (0, 1)), (1, 0))
        same(self, led_point(TURN, (1, 0)), (0, 1))
        same(self, led_point(UP, (1, 0)), (1, 0))
        same(self, led_point((5, -3, 1, 1), (1, 0)), (5, 1))
        same(self, led_point((5, -3, 1, 1), (-1, 1)), (1, 0))
        same(self, led_point((0, 1, -3, 0), (-1, 6)), (2, 1))

    def test_after(self):
        for one in MOVES:
            for other in MOVES:
                found = after(one, other)
                self.assertTrue(is_right(found))
                for q in POINTS:
                    self.assertEqual(led_point(found, q), led_point(one, led_point(other, q)))
        same(self, after(HALF, UP), (1, 1, 0, 2))
        same(self, after(UP, HALF), (1, 2, 0, 2))

    def test_back(self):
        for m in MOVES:
            found = back(m)
            self.assertTrue(is_right(found))
            same(self, after(m, found), STILL)
            same(self, after(found, m), STILL)
            same(self, back(found), m)

    def test_power(self):
        for m in MOVES:
            ahead = behind = STILL
            for n in range(21):
                same(self, power(m, n), ahead)
                same(self, power(m, -n), behind)
                ahead, behind = after(m, ahead), after(back(m), behind)
        same(self, power(HALF, 300), (1, 0, 0, 2 ** 300))

    def test_size_and_sum(self):
        for a, b, c, d in MOVES:
            same(self, size((a, b, c, d)), a * d - b * c)
            same(self, sum_of((a, b, c, d)), a + d)
        self.assertEqual((size(TURN), sum_of(TURN), size(HALF), sum_of(HALF)), (-1, 0, 2, 3))


class Three(unittest.TestCase):
    def test_three_are_led(self):
        for points in permutations(POINTS[:7], 3):
            for others in list(permutations(POINTS[:6], 3))[::7] + [tuple(POINTS[6:])]:
                found = unchanged(self, three, list(points), list(others))
                self.assertTrue(is_right(found))
                self.assertEqual([led_point(found, q) for q in points], list(others))
                same(self, three(points, others), found)

    def test_led_back_to_the_move(self):
        for m in MOVES:
            for points in permutations([(1, 0), (0, 1), (3, 2)]):
                same(self, three(list(points), [led_point(m, q) for q in points]), m)

    def test_same_points(self):
        right = [(1, 0), (0, 1), (1, 1)]
        for wrong in product(right + [(-1, 2)], repeat=3):
            if len(set(wrong)) < 3:
                for one, other in ((wrong, right), (right, wrong), (wrong, wrong)):
                    with self.assertRaises(SamePoints):
                        unchanged(self, three, list(one), list(other))


if __name__ == "__main__":
    unittest.main()
