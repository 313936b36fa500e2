"""The digits of fractions by a prime: a head, and a round told for ever."""

from ballmoves.errors import BadDigits
from ballmoves.fractions import divided, fraction, is_number, plus, times_of
from ballmoves.primes import inverse, parts, power_of, prime_power

NO_DIGITS = (0, (), (0,))


def digits(p, x):
    """The digits (k, head, round) of a fraction."""
    if x[0] == 0:
        return NO_DIGITS
    k = parts(p, x)
    upper, lower = divided(x, prime_power(p, k))
    by = inverse(p, 1, lower)
    told = []
    seen = {}
    # The same upper number has the same digits behind it: there the round begins.
    while upper not in seen:
        seen[upper] = len(told)
        told.append(upper * by % p)
        upper = (upper - told[-1] * lower) // p
    start = seen[upper]
    return (k, tuple(told[:start]), tuple(told[start:]))


def are_digits(p, value):
    """Whether a value is a tuple of integers from 0 to p - 1."""
    return isinstance(value, tuple) and all([is_number(part) and 0 <= part < p for part in value])


def has_form(p, value):
    """Whether a value is an integer and two tuples of digits, the second one not empty."""
    if not isinstance(value, tuple) or len(value) != 3:
        return False
    k, head, turn = value
    return is_number(k) and are_digits(p, head) and are_digits(p, turn) and len(turn) > 0


def is_repeated(turn):
    """Whether a tuple is a shorter one, told twice or more."""
    many = len(turn)
    return any([many % k == 0 and turn == turn[:k] * (many // k) for k in range(1, many // 2 + 1)])


def judge_digits(p, value):
    """None if any value is the digits of a fraction, else its first fault."""
    if not has_form(p, value):
        return ("form",)
    _, head, turn = value
    if (head + turn)[0] == 0 and value != NO_DIGITS:
        return ("begins",)
    if is_repeated(turn):
        return ("round",)
    if len(head) > 0 and head[-1] == turn[-1]:
        return ("head",)
    return None


def number_by(p, told):
    """The integer with these digits, the first one counting once."""
    number = 0
    for part in told[::-1]:
        number = number * p + part
    return number


def fraction_by(p, value):
    """The fraction that has any value as its digits."""
    if judge_digits(p, value) is not None:
        raise BadDigits()
    k, head, turn = value
    for_ever = fraction(number_by(p, turn), 1 - power_of(p, len(turn)))
    behind_head = times_of((power_of(p, len(head)), 1), for_ever)
    return times_of(prime_power(p, k), plus((number_by(p, head), 1), behind_head))


def digit(p, x, i):
    """The digit number i of a fraction, 0 below its first one."""
    k, head, turn = digits(p, x)
    at = i - k
    if at < 0:
        return 0
    if at < len(head):
        return head[at]
    return turn[(at - len(head)) % len(turn)]
