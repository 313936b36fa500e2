"""Where words of moves lead a ball."""

from ballmoves.balls import ascending
from ballmoves.errors import TooMany
from ballmoves.leads import led
from ballmoves.words import is_word, letter_move


def further(p, moves, known, edge):
    """The balls, not known, to which one letter leads balls with their words; each with its word."""
    letters = [((k, s), letter_move(moves, (k, s))) for k in range(len(moves)) for s in (1, -1)]
    found = {}
    for old in edge:
        for letter, m in letters:
            there = led(p, m, old)
            if there not in known and there not in found:
                found[there] = (letter,) + edge[old]
    return found


def layers(p, moves, ball, n, most):
    """For 0 and so on to n the balls to which words of so many letters, but no shorter ones, lead, each with a word."""
    known = {ball: True}
    found = [{ball: ()}]
    for _ in range(n):
        found.append(further(p, moves, known, found[-1]))
        for there in found[-1]:
            known[there] = True
        if len(known) > most:
            raise TooMany()
    return found


def orbit_layers(p, moves, ball, most):
    """All balls to which words lead a ball, by the letters that it takes."""
    # As long as there are more balls, each letter more leads to one of them at least.
    return layers(p, moves, ball, most, most)


def orbit(p, moves, ball, most):
    """All balls to which words lead a ball, ascending."""
    return ascending([there for layer in orbit_layers(p, moves, ball, most) for there in layer])


def leading(p, moves, one, other, most):
    """A word with as few letters as can be that leads one ball to another; None if there is none."""
    for layer in orbit_layers(p, moves, one, most):
        if other in layer:
            return layer[other]
    return None


def judge_leading(p, moves, one, other, value):
    """None if any value is a word that leads one ball to another, else its fault."""
    if not is_word(value, len(moves)):
        return ("form",)
    here = one
    for letter in reversed(value):
        here = led(p, letter_move(moves, letter), here)
    if here != other:
        return ("ends",)
    return None


def reached(p, moves, ball, n, most):
    """For 0 and so on to n how many balls there are to which words of at most so many letters lead a ball."""
    counts = []
    many = 0
    for layer in layers(p, moves, ball, n, most):
        many += len(layer)
        counts.append(many)
    return counts


def lots(p, moves, balls, most):
    """The lists into which balls fall that words lead to one another."""
    left = ascending(list({ball: True for ball in balls}))
    found = []
    while left != []:
        members = {ball: True for ball in orbit(p, moves, left[0], most)}
        found.append([ball for ball in left if ball in members])
        left = [ball for ball in left if ball not in members]
    return found
