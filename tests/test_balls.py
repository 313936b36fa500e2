import unittest
from fractions import Fraction

from ballmoves.balls import about, ball, has, is_ball, is_in, least_about, neighbours, within
from ballmoves.errors import BadBall
from brute import ROOT, around, holds, key, make, told, tree
from values import GREAT, NEVER, same, unchanged

UPPERS = [0, 1, -1, 2, 3, -4, 7, 12, -97, 10 ** 19 + 7, -10 ** 20 + 3]
LOWERS = [1, 2, 3, 4, 5, 6, 12, 45, 97, 97 ** 3, 2 ** 40, 3 ** 25 * 7]


def some_fractions():
    return sorted({Fraction(n, d) for n in UPPERS for d in LOWERS})


def is_power(p, n):
    while n % p == 0:
        n //= p
    return n == 1


class IsBall(unittest.TestCase):
    def test_by_its_definition(self):
        for p in (2, 3, 5):
            for n in range(-4, 5):
                for u in range(-3, 40):
                    for d in (1, 2, 3, 4, 5, 6, 8, 9, 27, 10):
                        x = Fraction(u, d)
                        right = is_power(p, x.denominator) and 0 <= x < Fraction(p) ** n
                        self.assertIs(is_ball(p, (n, told(x))), right, (p, n, x))

    def test_great_n(self):
        for p in (2, 97):
            for n in (-300, -40, 40, 300, 301):
                top = Fraction(p) ** n
                for q in (top - top / p, top - top / p ** 5, top / p, Fraction(0)):
                    self.assertIs(is_ball(p, (n, told(q))), True)
                for q in (top, top + 1, top + top / p, -top / p):
                    self.assertIs(is_ball(p, (n, told(q))), False)
        self.assertIs(is_ball(2, (300, (GREAT, 1))), True)
        self.assertIs(is_ball(2, (-300, (GREAT, 1))), False)

    def test_any_value(self):
        for value in NEVER + [0, (0, 0), (0, (0,)), (0, (0, 2)), (0, [0, 1]), [0, (0, 1)], (0, (0, 1), 0), (0, (0, -1)),
                              (True, (0, 1)), (False, (0, 1)), (1, (True, 1)), (1, (1, True)), (1, (False, 1)),
                              (0, (False, True)), ("0", (0, 1)), (None, (0, 1)), ((0, 1), 0), (0, (0, 1, 1)), (0, "0"),
                              (0, (2, 4)), (2, (2, 2)), (1, (2, 1)), (1, (-1, 1)), (1, (1, 3)), (1, (3, 6)), (0, (1, 1)),
                              ((0, (0, 1)),), {0: (0, 1)}, (0, None), (0, (None, 1)), (0, (0, 0)), (0, (1, 0))]:
            self.assertIs(unchanged(self, is_ball, 2, value), False, value)

    def test_by_another_prime(self):
        self.assertIs(is_ball(3, (1, (2, 1))), True)
        self.assertIs(is_ball(2, (1, (2, 1))), False)
        self.assertIs(is_ball(3, (0, (1, 2))), False)
        self.assertIs(is_ball(2, (0, (1, 2))), True)


class MakeBall(unittest.TestCase):
    def test_by_digits(self):
        for p in (2, 3, 97):
            for x in some_fractions():
                for n in (-6, -3, -1, 0, 1, 2, 5, 8):
                    found = ball(p, n, told(x))
                    same(self, found, make(p, n, x))
                    self.assertTrue(is_ball(p, found) and holds(p, found, x))

    def test_n_from_minus_300_to_300(self):
        for p in (2, 97):
            for x in some_fractions()[::9] + [Fraction(p) ** -300 + Fraction(1, 3), 5 * Fraction(p) ** 299 - Fraction(7, 11)]:
                for n in (-300, -299, -150, -40, 40, 151, 300, 311):
                    found = ball(p, n, told(x))
                    self.assertTrue(is_ball(p, found) and holds(p, found, x) and found[0] == n)

    def test_a_ball_has_its_q(self):
        for p in (2, 3):
            for one in tree(p, ROOT, 4):
                same(self, ball(p, one[0], one[1]), one)

    def test_bad_balls(self):
        for n in NEVER + ["1", (1, 2)]:
            for x in ((0, 1), (1, 2), None, (2, 4)):
                with self.assertRaises(BadBall):
                    unchanged(self, ball, 2, n, x)
        for x in NEVER + [1, 0, (2, 4), (1, 0), (1, -1), [1, 2], (True, 1), (1, True), "1", (0, (0, 1))]:
            for n in (0, 1, -300, True):
                with self.assertRaises(BadBall):
                    unchanged(self, ball, 2, n, x)


class Has(unittest.TestCase):
    def test_by_its_definition(self):
        for p in (2, 3, 97):
            for one in (ROOT, (2, (1, 1)), (-1, (0, 1)), (3, (p + 1, 1)), (-2, (1, p ** 3)), (0, (1, p))):
                for x in some_fractions():
                    self.assertIs(has(p, one, told(x)), holds(p, one, x))

    def test_far_balls(self):
        for p in (2, 97):
            for n in (-300, -40, 40, 300, 5000):
                one = ball(p, n, (1, 3 if p == 2 else 2))
                x = Fraction(1, 3 if p == 2 else 2)
                self.assertIs(has(p, one, told(x)), True)
                self.assertIs(has(p, one, told(x + Fraction(p) ** n)), True)
                self.assertIs(has(p, one, told(x + Fraction(p) ** (n + 3))), True)
                self.assertIs(has(p, one, told(x + Fraction(p) ** (n - 1))), False)
                self.assertIs(has(p, one, told(x + Fraction(p) ** (n - 300))), False)


class Neighbours(unittest.TestCase):
    def test_all(self):
        for p in (2, 3, 5):
            for one in tree(p, ROOT, 3):
                found = around(p, one)
                same(self, neighbours(p, one), found)
                same(self, about(p, one), found[0])
                same(self, within(p, one), found[1:])
                self.assertEqual(found[1:], sorted(found[1:], key=key))

    def test_there_and_back(self):
        for p in (2, 3, 97):
            for one in (ROOT, (40, (12345, 1)), (-40, (5, p ** 43)), (0, (p - 1, p)), (300, (0, 1))):
                self.assertTrue(is_ball(p, one))
                self.assertEqual(len(neighbours(p, one)), p + 1)
                for other in neighbours(p, one):
                    self.assertTrue(is_ball(p, other))
                    self.assertIn(one, neighbours(p, other))
                for other in within(p, one):
                    self.assertEqual(about(p, other), one)
                self.assertIn(one, within(p, about(p, one)))

    def test_new_lists(self):
        for call in (neighbours, within):
            first = call(2, ROOT)
            first.clear()
            self.assertTrue(call(2, ROOT))


class Pairs(unittest.TestCase):
    def test_is_in_and_least_about(self):
        for p in (2, 3):
            balls = list(tree(p, ROOT, 3))
            for one in balls:
                for other in balls:
                    self.assertIs(is_in(p, one, other), one[0] >= other[0] and holds(p, other, Fraction(*one[1])))
                    same(self, least_about(p, one, other), self.slow_about(p, one, other))

    def slow_about(self, p, one, other):
        n = min(one[0], other[0])
        while not holds(p, (n, one[1]), Fraction(*other[1])):
            n -= 1
        return make(p, n, Fraction(*one[1]))

    def test_named_cases(self):
        one, inner, beside = (3, (1, 1)), (5, (9, 1)), (3, (5, 1))
        self.assertEqual([is_in(2, one, one), is_in(2, inner, one), is_in(2, one, inner)], [True, True, False])
        self.assertEqual([is_in(2, one, beside), is_in(2, beside, one)], [False, False])
        self.assertEqual([least_about(2, one, one), least_about(2, inner, one), least_about(2, one, inner)], [one] * 3)
        self.assertEqual([least_about(2, one, beside), least_about(2, beside, one)], [(2, (1, 1))] * 2)
        self.assertEqual(least_about(2, (40, (0, 1)), (40, (1, 2 ** 40))), (-40, (0, 1)))


if __name__ == "__main__":
    unittest.main()
