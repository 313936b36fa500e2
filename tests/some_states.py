"""States for the tests, and slow ways to look at them."""

from ballmoves.moves import after, back
from values import deep

MOVE, TURN, STILL, WIDE = (1, 1, 0, 1), (0, 1, 1, 0), (1, 0, 0, 1), (999999, -999998, 123456, 654321)
STATE = {"a": ("move", MOVE), "b": ("word", (("c", 1), ("a", -1), ("c", 1))), "c": ("move", TURN), "d": ("word", (("b", 1), ("b", 1)))}


def word(*letters):
    """A word of letters such as "a" and "a-"."""
    return ("word", tuple((letter.rstrip("-"), -1 if letter.endswith("-") else 1) for letter in letters))


# A chain of names, each twice the one ahead: lengths 1, 2, 4 and so on.
CHAIN = {"a": ("move", MOVE), **{name: word(ahead, ahead) for ahead, name in zip("abcdefgh", "bcdefghi")}}
MIXED = {"abcdefgh": ("move", WIDE), "b": word("z", "z-"), "x": word("b", "y-"), "y": word(), "z": word("abcdefgh", "y", "zz-"),
         "zz": ("move", (2, 0, 0, 1))}
TURNED = {"a": word("b"), "b": word("c-", "d"), "c": word("d", "d"), "d": ("move", (3, 1, 0, 2)), "e": word("a", "e" * 2), "ee": word()}
STATES = [{}, {"a": ("move", STILL)}, {"a": word()}, STATE, CHAIN, MIXED, TURNED]


def letters_of(state, name):
    """The letters of moves' names that a name comes to, one behind the other."""
    kind, told = state[name]
    if kind == "move":
        return [(name, 1)]
    found = []
    for other, s in told:
        inner = letters_of(state, other)
        found += inner if s == 1 else [(last, -t) for last, t in inner[::-1]]
    return found


def slow_value(state, name):
    """The move of a name, letter by letter."""
    found = STILL
    for other, s in letters_of(state, name):
        m = state[other][1]
        found = after(found, m if s == 1 else back(m))
    return found


def slow_used(state, name):
    kind, told = state[name]
    return sorted({other for other, _ in told}) if kind == "word" else []


def slow_hanging(state, name):
    """All names from which one comes to a name by what is used."""
    found = {other for other in state if name in slow_used(state, other)}
    for _ in state:
        found |= {other for other in state if found & set(slow_used(state, other))}
    return sorted(found)


def strict(state):
    """A state with its order and all its kinds."""
    return [(name, deep(state[name])) for name in state]
