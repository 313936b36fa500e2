"""The least prime number that divides a number without divisors to 97."""

from math import gcd, isqrt

# So far numbers are looked through one by one: this is enough for numbers to 4 * 10 ** 12.
FAR_ENOUGH = 2000000
BASES = (2, 3, 5, 7, 11, 13, 17, 19, 23, 29, 31, 37, 41)


def power_rest(base, k, n):
    """The rest of base ** k by n, k from 0 on."""
    found = 1
    while k > 0:
        if k & 1:
            found = found * base % n
        base = base * base % n
        k = k >> 1
    return found


def seems_prime(n, base):
    """Whether an odd number is to a base as prime numbers are."""
    odd = n - 1
    while odd & 1 == 0:
        odd = odd >> 1
    square = power_rest(base, odd, n)
    if square == 1:
        return True
    # By a prime number only 1 and -1 have the square 1.
    while odd < n - 1 and square != n - 1:
        square = square * square % n
        odd = 2 * odd
    return square == n - 1


def is_prime_number(n):
    """Whether a number without divisors to 97 is a prime number."""
    return all([seems_prime(n, base) for base in BASES])


def met(n, k):
    """A divisor of n above 1, where two of the rests x come to meet of which each next one is x * x + k."""
    slow = fast = 2
    found = 1
    while found == 1:
        slow = (slow * slow + k) % n
        fast = (fast * fast + k) % n
        fast = (fast * fast + k) % n
        found = gcd(slow - fast, n)
    return found


def divisor(n):
    """A divisor, other than 1 and n, of a number that is no prime number."""
    root = isqrt(n)
    if root * root == n:
        return root
    k = 1
    found = met(n, k)
    # By some k all rests may meet at once: then another one is taken.
    while found == n:
        k += 1
        found = met(n, k)
    return found


def least_prime(n):
    """The least prime number that divides a number."""
    if is_prime_number(n):
        return n
    found = divisor(n)
    return min(least_prime(found), least_prime(n // found))


def least_great(n):
    """The least prime number that divides n, which is above 1, where no prime to 97 does."""
    # Each prime number above 97 is a multiple of six, less or more by one.
    for six in range(102, min(isqrt(n), FAR_ENOUGH) + 2, 6):
        if n % (six - 1) == 0:
            return six - 1
        if n % (six + 1) == 0:
            return six + 1
    return least_prime(n)
