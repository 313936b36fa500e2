import unittest
from itertools import combinations_with_replacement

from ballmoves.factors import is_prime_number, least_great
from values import same

# Prime numbers above 97, to 4 * 10 ** 12.
GREAT = [101, 103, 997, 999983, 1999993, 2000003, 100000007, 999999000001, 3999999999967]


def is_slow_prime(n):
    return all(n % k for k in range(2, n) if k * k <= n)


class Factors(unittest.TestCase):
    def test_prime_numbers(self):
        for n in range(101, 12000, 2):
            if all(n % k for k in range(2, 98)):
                same(self, is_prime_number(n), is_slow_prime(n))
        for n in GREAT:
            same(self, is_prime_number(n), True)
        # These are as prime numbers are to some bases.
        for n in [101 * 103, 2047 * 89, 3215031751, 3474749660383, 341550071728321, 3215031751 * 101]:
            same(self, is_prime_number(n), False)

    def test_least_of_products(self):
        for many in (1, 2, 3):
            for some in combinations_with_replacement(GREAT[:-2], many):
                product = 1
                for prime in some:
                    product *= prime
                same(self, least_great(product), some[0])

    def test_great_primes(self):
        for prime in GREAT[-2:]:
            for product in (prime, prime * prime, prime ** 4):
                same(self, least_great(product), prime)
            same(self, least_great(prime * prime * 2000003), 2000003)
        same(self, least_great(GREAT[-1] * GREAT[-2]), GREAT[-2])


if __name__ == "__main__":
    unittest.main()
