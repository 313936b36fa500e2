"""Lists of moves told in whole numbers, or what bars it; and orders of moves."""

from ballmoves.balls import ROOT
from ballmoves.common import common_balls, nearest_common
from ballmoves.errors import TooMany
from ballmoves.forms import is_told
from ballmoves.grids import grid_of, is_whole_at
from ballmoves.kinds import kind
from ballmoves.moves import STILL, is_move, power, size
from ballmoves.primes import is_prime, primes_of
from ballmoves.roads import steps
from ballmoves.words import is_word, short_words, word_move

MOST_GRIDS = 400
ORDERS = (1, 2, 3, 4, 6)


def bad_primes(moves):
    """The primes that divide the size of a move of a list, ascending."""
    found = {}
    for m in moves:
        for p in primes_of(size(m)):
            found[p] = True
    return sorted(found)


def keeps_some(p, m):
    """Whether a move keeps a ball at p."""
    return kind(p, m)[0] == "keeps"


def barring(p, moves):
    """The first word of one or two letters whose move keeps no ball at p, where the moves keep none in common."""
    return [word for word in short_words(len(moves)) if not keeps_some(p, word_move(moves, word))][0]


def whole(moves):
    """A move at which all moves are whole, or a prime and a word that bar it."""
    pairs = []
    for p in bad_primes(moves):
        ball = nearest_common(p, moves, ROOT)
        if ball is None:
            return ("bars", p, barring(p, moves))
        pairs.append((p, ball))
    return ("whole", grid_of(pairs))


def judge_whole(moves, value):
    """None if any value shows a move at which all moves are whole, or what bars it; else its first fault."""
    if is_told(value, "whole", 1) and is_move(value[1]):
        for k in range(len(moves)):
            if not is_whole_at(value[1], moves[k:k + 1]):
                return ("move", k)
        return None
    if not is_told(value, "bars", 2) or not is_prime(value[1]) or not is_word(value[2], len(moves)):
        return ("form",)
    if keeps_some(value[1], word_move(moves, value[2])):
        return ("keeps",)
    return None


def are_near(p, moves, n):
    """Whether all moves keep a ball in common at most n steps from (0, (0, 1))."""
    near = nearest_common(p, moves, ROOT)
    return near is not None and steps(p, ROOT, near) <= n


def grids_near(moves, n):
    """The moves (a, b, 0, d) at which all moves are whole, with balls near to (0, (0, 1)), ascending."""
    primes = bad_primes(moves)
    # Where one prime has no ball there are no grids, however many balls another one has.
    if not all([are_near(p, moves, n) for p in primes]):
        return []
    lists = [[]]
    for p in primes:
        balls = common_balls(p, moves, ROOT, n)
        if len(lists) * len(balls) > MOST_GRIDS:
            raise TooMany()
        lists = [pairs + [(p, ball)] for pairs in lists for ball in balls]
    return sorted([grid_of(pairs) for pairs in lists])


def order(m):
    """The least n from 1 on for which n times m is (1, 0, 0, 1); None if there is none."""
    for n in ORDERS:
        if power(m, n) == STILL:
            return n
    return None


def orders(moves):
    """The orders of all moves."""
    return [order(m) for m in moves]
