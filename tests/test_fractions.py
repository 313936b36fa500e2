import unittest
from fractions import Fraction

from ballmoves.fractions import divided, fraction, is_fraction, is_less, minus, plus, times_of
from values import GREAT, NEVER, same, unchanged

NUMBERS = [0, 1, -1, 2, -2, 3, 4, -6, 12, 30, -97, 10 ** 19, -10 ** 20 + 1, 2 ** 300, GREAT]


def told(x):
    return (x.numerator, x.denominator)


def all_fractions():
    return sorted({told(Fraction(n, d)) for n in NUMBERS for d in NUMBERS if d != 0})


class Fractions(unittest.TestCase):
    def test_fraction(self):
        for n in NUMBERS:
            for d in NUMBERS:
                if d != 0:
                    same(self, fraction(n, d), told(Fraction(n, d)))

    def test_sums_and_products(self):
        for x in all_fractions():
            for y in all_fractions():
                a, b = Fraction(*x), Fraction(*y)
                same(self, plus(x, y), told(a + b))
                same(self, minus(x, y), told(a - b))
                same(self, times_of(x, y), told(a * b))
                self.assertIs(is_less(x, y), a < b)
                if b != 0:
                    same(self, divided(x, y), told(a / b))

    def test_fractions_are_fractions(self):
        for x in all_fractions() + [(0, 1), (1, 1), (-1, 1), (3, 2), (-3, 2), (GREAT, 10)]:
            self.assertIs(is_fraction(x), True, x)

    def test_what_is_near_is_none(self):
        for value in NEVER + [0, 1, (2, 4), (0, 2), (0, -1), (0, 0), (1, 0), (-1, 0), (1, -1), (1, -2), (-1, -2), (6, 3),
                              [1, 2], (1, 2, 3), (1, 2, 1), (3,), "1/2", (True, 2), (False, 1), (3, True), ((1, 2), 1),
                              (1, (1, 1)), {1: 2}, (GREAT, GREAT)]:
            if value != [1, 0]:
                self.assertIs(unchanged(self, is_fraction, value), False, value)


if __name__ == "__main__":
    unittest.main()
