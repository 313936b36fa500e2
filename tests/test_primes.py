import unittest
from fractions import Fraction
from itertools import combinations

from ballmoves.errors import TooGreat
from ballmoves.primes import is_prime, parts, primes_of, rest
from values import GREAT, NEVER, same, unchanged

PRIMES = [p for p in range(2, 98) if all(p % k for k in range(2, p))]
# The greatest prime number whose square is at most 4 * 10 ** 12, and the greatest one below that.
SQUARE_ROOT, GREATEST = 1999993, 3999999999967


def count(p, x):
    """How often p is in a Fraction other than 0, counted one by one."""
    times = 0
    while x.numerator % p == 0:
        x, times = x / p, times + 1
    while x.denominator % p == 0:
        x, times = x * p, times - 1
    return times


class Primes(unittest.TestCase):
    def test_is_prime(self):
        for n in list(range(-100, 1000)) + [GREAT, -GREAT, 10 ** 12 + 39]:
            self.assertIs(is_prime(n), n in PRIMES, n)
        for value in NEVER + ["2", (2,), [2], (2, 1), {2: 2}]:
            self.assertIs(unchanged(self, is_prime, value), False, value)

    def test_primes_of_small_numbers(self):
        for n in range(1, 101):
            divisors = [p for p in PRIMES if n % p == 0]
            same(self, primes_of(n), divisors)
            same(self, primes_of(-n), divisors)

    def test_primes_of_products(self):
        for some in combinations([2, 3, 13, 47, 89, 97], 3):
            n = some[0] ** 3 * some[1] * some[2] ** 2
            same(self, primes_of(n), list(some))
            same(self, primes_of(-n), list(some))
        same(self, primes_of(4 * 10 ** 12), [2, 5])
        same(self, primes_of(2 ** 41), [2])
        same(self, primes_of(97 ** 6), [97])

    def test_one(self):
        same(self, primes_of(1), [])
        same(self, primes_of(-1), [])
        self.assertIsNot(primes_of(6), primes_of(6))

    def test_too_great(self):
        for n, prime in [(101, 101), (-101, 101), (2 * 103, 103), (101 * 103, 101), (-101 * 101, 101), (103 * 107, 103),
                         (97 * 109 * 113, 109), (101 ** 6, 101), (SQUARE_ROOT ** 2, SQUARE_ROOT), (GREATEST, GREATEST),
                         (1999979 * SQUARE_ROOT, 1999979), (2 ** 10 * 10007, 10007), (60 * 9973 * 10007, 9973),
                         (2 * 1000003, 1000003), (1009 * 1009 * 1013, 1009), (127 * 131, 127)]:
            self.assertLessEqual(abs(n), 4 * 10 ** 12)
            with self.assertRaises(TooGreat) as caught:
                primes_of(n)
            self.assertEqual(caught.exception.prime, prime, n)

    def test_too_great_near_97(self):
        for n in range(98, 3000):
            great = [k for k in range(101, n + 1) if n % k == 0 and all(k % p for p in PRIMES)]
            if great:
                with self.assertRaises(TooGreat) as caught:
                    primes_of(n)
                self.assertEqual(caught.exception.prime, great[0], n)
            else:
                self.assertEqual(primes_of(n), [p for p in PRIMES if n % p == 0])


class Parts(unittest.TestCase):
    def test_zero(self):
        for p in PRIMES:
            self.assertIsNone(parts(p, (0, 1)))

    def test_small_fractions(self):
        for p in (2, 3, 5, 97):
            for n in list(range(1, 60)) + [97 * 97 * 4, 10 ** 20]:
                for d in list(range(1, 40)) + [97 ** 3, 10 ** 19]:
                    x = Fraction(n, d)
                    same(self, parts(p, (x.numerator, x.denominator)), count(p, x))
                    same(self, parts(p, (-x.numerator, x.denominator)), count(p, x))

    def test_great_powers(self):
        for p in PRIMES:
            for k in (1, 2, 3, 7, 31, 32, 33, 300, 1000):
                same(self, parts(p, (7 * p ** k if p != 7 else p ** k, 1)), k)
                same(self, parts(p, (-1, p ** k)), -k)


class Rest(unittest.TestCase):
    def test_by_its_definition(self):
        for p in (2, 3, 7, 97):
            for n in (0, 1, -1, 5, -12, 97, 10 ** 20, -10 ** 20):
                for d in (1, 2, 3, 5, 11, 49, 97, 10 ** 19 + 3):
                    x = Fraction(n, d)
                    if x.denominator % p == 0:
                        continue
                    for k in (0, 1, 2, 3, 4, 5, 8, 17, 100, 137):
                        r = rest(p, k, (x.numerator, x.denominator))
                        self.assertIs(type(r), int)
                        self.assertTrue(0 <= r < p ** k)
                        self.assertTrue(x == r or count(p, x - r) >= k, (p, k, x))

    def test_none(self):
        self.assertEqual(rest(2, 0, (1, 3)), 0)
        self.assertEqual(rest(5, 0, (-12, 1)), 0)


if __name__ == "__main__":
    unittest.main()
