"""Primes to 97, how often they divide, and rests by their powers."""

from ballmoves.errors import TooGreat
from ballmoves.factors import least_great
from ballmoves.fractions import is_number

PRIMES = (2, 3, 5, 7, 11, 13, 17, 19, 23, 29, 31, 37, 41, 43, 47, 53, 59, 61, 67, 71, 73, 79, 83, 89, 97)


def is_prime(value):
    """Whether any value is one of the primes from 2 to 97."""
    return is_number(value) and value in PRIMES


def primes_of(n):
    """The primes that divide an integer other than 0, ascending, each once."""
    left = abs(n)
    found = []
    for p in PRIMES:
        if left % p == 0:
            found.append(p)
            left = left // power_of(p, times_in(p, left))
    if left > 1:
        raise TooGreat(least_great(left))
    return found


def times_in(p, n):
    """How often p divides an integer other than 0."""
    # The powers double, as p may divide thousands of times.
    powers = [p]
    while n % powers[-1] == 0:
        powers.append(powers[-1] * powers[-1])
    times = 0
    for k in reversed(range(len(powers))):
        if n % powers[k] == 0:
            n = n // powers[k]
            times += 1 << k
    return times


def power_of(base, k):
    """The integer base ** k, k from 0 on."""
    result = 1
    square = base
    while k > 0:
        if k & 1:
            result = result * square
        k = k >> 1
        if k > 0:
            square = square * square
    return result


def prime_power(p, n):
    """The fraction p ** n, n any integer."""
    if n < 0:
        return (1, power_of(p, -n))
    return (power_of(p, n), 1)


def parts(p, x):
    """How often p is in a fraction; None for 0."""
    if x[0] == 0:
        return None
    return times_in(p, x[0]) - times_in(p, x[1])


def has_parts(p, x, n):
    """Whether a fraction is 0 or has at least n parts."""
    return x[0] == 0 or parts(p, x) >= n


def inverse(p, k, n):
    """The integer from 0 on and below p ** k that gives 1 with n, but for a multiple of p ** k."""
    found = [r for r in range(1, p) if n * r % p == 1][0]
    reach = 1
    power = p
    # What is right to p ** reach leads to what is right to twice as many parts.
    while reach < k:
        reach = 2 * reach
        power = power * power
        found = found * (2 - n * found) % power
    return found % power_of(p, k)


def rest(p, k, x):
    """The integer from 0 on and below p ** k from which x, p not in its lower number, is k parts away."""
    power = power_of(p, k)
    if x[1] == 1:
        return x[0] % power
    return x[0] * inverse(p, k, x[1]) % power
