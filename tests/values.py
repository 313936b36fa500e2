"""Values for the tests: any values, and what is near to right ones."""

import copy

GREAT = 10 ** 40 - 1

# What is never a number, a fraction, a point, a ball, a side, a move or digits.
NEVER = [
    None, True, False, "", "far", "(0, 1)", "a\tb\n~", (), [], {}, (0,), (1,), (True,), [0, 1], [1, 0], (0, 1, 1), {0: 1},
    {"n": (0, 1)}, (None, None), ("0", "1"), ((0, 1),), ((0, 1), (0, 1), (0, 1)), [[], [()]], ((), ()), ([0], [1]),
    (0, None), (None, 1), (0, "1"), ("0", 1), (0, [1]), (0, True), (False, 1), (True, 1), (1, True), (1, False),
    (True, True), (True, False), {(0, 1): [1, {"a": (True,)}]}, ((((((((0,),),),),),),),),
]


def deep(value):
    """A value with all its kinds: so True and 1, or a list and a tuple, are told apart."""
    if isinstance(value, (list, tuple)):
        return (type(value).__name__, [deep(part) for part in value])
    if isinstance(value, dict):
        return ("dict", [(deep(key), deep(value[key])) for key in value])
    return (type(value).__name__, value)


def unchanged(test, function, *args):
    """What a function answers; the test fails if it changes what it was passed."""
    before = [deep(value) for value in copy.deepcopy(args)]
    try:
        return function(*args)
    finally:
        test.assertEqual([deep(value) for value in args], before)


def same(test, one, other):
    """Two values are equal, and of the same kinds at any depth."""
    test.assertEqual(deep(one), deep(other))


def broken(value):
    """A value of a fixed form with some part of another kind, one more, or one less: never of that form."""
    if isinstance(value, tuple):
        found = [list(value), value[:-1], value + value[-1:], {0: value}]
        for k in range(len(value)):
            found += [value[:k] + (part,) + value[k + 1:] for part in broken(value[k])]
        return found
    if isinstance(value, str):
        return [value + "s", value[:-1], value.upper(), (value,), None]
    return [None, str(value), (value,), [value]] + [sign for sign in (True, False) if sign == value]
