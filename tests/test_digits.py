import unittest
from fractions import Fraction
from itertools import product
from math import gcd

from ballmoves.digits import digit, digits, fraction_by, judge_digits
from ballmoves.errors import BadDigits
from test_primes import count
from values import GREAT, NEVER, same, unchanged


def told(x):
    return (x.numerator, x.denominator)


def sum_of_digits(p, value):
    """The Fraction of digits, by the sum of p ** j for ever: 1 / (1 - p)."""
    k, head, turn = value
    first = sum(Fraction(p) ** (k + j) * part for j, part in enumerate(head))
    once = sum(Fraction(p) ** (k + len(head) + j) * part for j, part in enumerate(turn))
    return first + once / (1 - Fraction(p) ** len(turn))


def some_fractions(p):
    uppers = [1, -1, 2, 3, -4, 5, 12, -97, 10 ** 19 + 7, -10 ** 20 + 3, p ** 5, -p ** 40]
    lowers = [1, 2, 3, 5, 6, 7, 11, 31, 97, 100, 999, 1000, p, p ** 3, 7 * p ** 2, p ** 30]
    return [Fraction(n, d) for n in uppers for d in lowers]


def sequence(value, many):
    _, head, turn = value
    return (head + turn * (many // len(turn) + 1))[:many]


class Digits(unittest.TestCase):
    def test_zero(self):
        for p in (2, 3, 97):
            same(self, digits(p, (0, 1)), (0, (), (0,)))

    def test_form_and_sum(self):
        for p in (2, 3, 5, 7, 97):
            for x in some_fractions(p):
                value = unchanged(self, digits, p, told(x))
                k, head, turn = value
                self.assertTrue(isinstance(value, tuple) and isinstance(head, tuple) and isinstance(turn, tuple))
                self.assertTrue(all(type(part) is int and 0 <= part < p for part in head + turn))
                self.assertEqual(k, count(p, x))
                self.assertNotEqual((head + turn)[0], 0)
                self.assertEqual(sum_of_digits(p, value), x)
                self.assertIsNone(judge_digits(p, value))

    def test_each_sum_is_near(self):
        for p in (2, 3, 97):
            for x in some_fractions(p)[::7]:
                k, head, turn = digits(p, told(x))
                left = x
                for i, part in enumerate(sequence((k, head, turn), 60)):
                    left -= part * Fraction(p) ** (k + i)
                    self.assertTrue(left == 0 or count(p, left) > k + i)

    def test_as_short_as_can_be(self):
        for p in (2, 3, 5):
            for x in some_fractions(p)[::3]:
                k, head, turn = digits(p, told(x))
                for many in range(1, len(turn)):
                    if len(turn) % many == 0:
                        self.assertNotEqual(turn[:many] * (len(turn) // many), turn)
                if head:
                    self.assertNotEqual(head[-1], turn[-1])

    def test_long_rounds(self):
        for p, d in [(2, 947), (3, 983), (97, 997), (2, 991), (5, 999)]:
            value = digits(p, (-1, d))
            self.assertEqual(sum_of_digits(p, value), Fraction(-1, d))
            order = next(n for n in range(1, d) if pow(p, n, d) == 1)
            self.assertEqual((value[1], len(value[2])), ((), order))

    def test_back(self):
        for p in (2, 3, 5, 97):
            for x in some_fractions(p):
                same(self, fraction_by(p, digits(p, told(x))), told(x))


class JudgeDigits(unittest.TestCase):
    def test_all_short_ones(self):
        for p, many in ((2, 5), (3, 4)):
            right = {}
            for k in (-1, 0, 2):
                for size in range(many + 1):
                    for length in range(1, many + 1 - size):
                        for head in product(range(p), repeat=size):
                            for turn in product(range(p), repeat=length):
                                self.judge_one(p, (k, head, turn), right)

    def judge_one(self, p, value, right):
        x = sum_of_digits(p, value)
        if judge_digits(p, value) is None:
            self.assertNotIn(x, right)
            right[x] = value
            same(self, fraction_by(p, value), told(x))
            same(self, digits(p, told(x)), value)
        else:
            self.assertNotEqual(digits(p, told(x)), value)
            with self.assertRaises(BadDigits):
                fraction_by(p, value)

    def test_each_fault(self):
        for p, value, fault in [
                (2, (0, (0,), (1,)), "begins"), (2, (1, (), (0,)), "begins"), (2, (-1, (), (0,)), "begins"),
                (3, (0, (), (0, 1)), "begins"), (3, (4, (0, 2), (1,)), "begins"), (3, (0, (0,), (0,)), "begins"),
                (3, (0, (), (0, 0)), "begins"), (2, (0, (1,), (0, 0)), "round"), (2, (5, (), (1, 1, 1)), "round"),
                (3, (0, (2, 1), (0, 1, 0, 1)), "round"), (3, (0, (), (1, 2, 1, 2, 1, 2)), "round"),
                (2, (0, (1, 0), (1, 0)), "head"), (5, (0, (4,), (4,)), "head"), (5, (-2, (1, 2), (3, 2)), "head")]:
            same(self, unchanged(self, judge_digits, p, value), (fault,))
            with self.assertRaises(BadDigits):
                fraction_by(p, value)

    def test_no_form(self):
        for value in NEVER + [0, (0, 1), (0, (), ()), (0, (1,), ()), (0, [1], (0,)), (0, (1,), [0]), [0, (1,), (0,)],
                              (True, (1,), (0,)), (False, (), (0,)), (0, (True,), (0,)), (0, (1,), (False,)),
                              (None, (1,), (0,)), ("0", (1,), (0,)), (0, 1, (0,)), (0, (1,), 0), (0, (2,), (0,)),
                              (0, (1,), (2,)), (0, (-1,), (0,)), (0, (1,), (-1,)), (0, (1,), (0,), ()), (0, (1,)),
                              (0, "1", "0"), (0, (1,), {0: 1}), (0, (1, GREAT), (0,)), (0, ((1,),), (0,)),
                              ((0,), (1,), (0,)), (0, (None,), (0,)), (0, {}, (0,))]:
            same(self, unchanged(self, judge_digits, 2, value), ("form",))
            with self.assertRaises(BadDigits):
                unchanged(self, fraction_by, 2, value)

    def test_several_at_once_in_order(self):
        same(self, judge_digits(2, (0, (0, 2), (1, 1))), ("form",))
        same(self, judge_digits(2, (0, (0, 1), (1, 1))), ("begins",))
        same(self, judge_digits(2, (0, (0, 0), (0, 0))), ("begins",))
        same(self, judge_digits(2, (0, (1, 0), (0, 0))), ("round",))
        same(self, judge_digits(3, (0, (0, 1), (2, 1))), ("begins",))
        same(self, judge_digits(3, (1, (1,), (1, 1))), ("round",))

    def test_right_ones(self):
        for value in [(0, (), (0,)), (300, (), (1,)), (-300, (1,), (0,)), (7, (1,), (1, 0)), (0, (1, 0, 1), (1, 1, 0)),
                      (0, (1,) * 150, (0,) * 149 + (1, 0)), (0, (1,) + (0,) * 900 + (1,), (0,) * 999 + (1, 0))]:
            self.assertIsNone(judge_digits(2, value))
            same(self, digits(2, fraction_by(2, value)), value)
            self.assertEqual(Fraction(*fraction_by(2, value)), sum_of_digits(2, value))

    def test_the_greatest_digit(self):
        self.assertIsNone(judge_digits(97, (0, (96,), (0,))))
        same(self, judge_digits(97, (0, (97,), (0,))), ("form",))
        same(self, judge_digits(89, (0, (96,), (0,))), ("form",))


class Digit(unittest.TestCase):
    def test_told_by_digits(self):
        for p in (2, 3, 97):
            for x in some_fractions(p)[::5]:
                value = digits(p, told(x))
                shown = sequence(value, 200)
                for j in range(200):
                    same(self, digit(p, told(x), value[0] + j), shown[j])

    def test_below_the_first_one(self):
        for p in (2, 5):
            for k in (-40, -1, 0, 3):
                x = Fraction(p) ** k
                self.assertEqual([digit(p, told(x), i) for i in (k - 160, k - 2, k - 1, k, k + 1)], [0, 0, 0, 1, 0])

    def test_zero(self):
        self.assertEqual([digit(3, (0, 1), i) for i in (-200, -1, 0, 1, 10000)], [0] * 5)

    def test_far_along_the_round(self):
        for p, n, d in [(2, 1, 3), (2, -5, 947), (3, 10 ** 20, 983), (97, -1, 999), (5, 10 ** 19, 1)]:
            self.assertEqual(gcd(p, d), 1)
            for i in (199, 200, 1000, 4999, 9999, 10000):
                whole = n * pow(d, -1, p ** (i + 1)) % p ** (i + 1)
                same(self, digit(p, told(Fraction(n, d)), i), whole // p ** i)


if __name__ == "__main__":
    unittest.main()
