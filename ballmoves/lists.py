"""Points that moves keep, and the five kinds of lists of moves."""

from math import isqrt

from ballmoves.errors import NotKept
from ballmoves.forms import is_told
from ballmoves.fractions import fraction, is_less
from ballmoves.kinds import stretch
from ballmoves.leads import led
from ballmoves.lines import lines
from ballmoves.moves import STILL, after, back, led_point, power, size, under_root
from ballmoves.places import is_place, keeps_place, place
from ballmoves.points import FAR, is_point
from ballmoves.primes import times_in
from ballmoves.sides import four_sides, judge_sides
from ballmoves.words import back_word, is_word, joined, shortened, word_move


def kept_points(m):
    """The points that a move keeps, fractions ascending, far last; None if it keeps all."""
    if m == STILL:
        return None
    a, b, c, d = m
    if c == 0:
        if a == d:
            return [FAR]
        return [fraction(b, d - a), FAR]
    square = under_root(m)
    root = isqrt(max(0, square))
    if root * root != square:
        return []
    # They are the x with c x x + (d - a) x = b.
    one, other = fraction(a - d - root, 2 * c), fraction(a - d + root, 2 * c)
    if one == other:
        return [one]
    if is_less(one, other):
        return [one, other]
    return [other, one]


def kept_by_all(moves):
    """The points that all moves of a list keep; None if all keep all."""
    others = [m for m in moves if m != STILL]
    if others == []:
        return None
    return [q for q in kept_points(others[0]) if all([led_point(m, q) == q for m in others])]


def shift(p, m, point):
    """By how many steps a move leads far balls on towards a point that it keeps."""
    if led_point(m, point) != point:
        raise NotKept()
    a, b, c, d = m
    x, y = point
    # The table leads the point's numbers to so many times these.
    if y == 0:
        times = a
    else:
        times = (c * x + d * y) // y
    return times_in(p, size(m)) - 2 * times_in(p, times)


def leads_line(m, w):
    """Whether w, told about the move m, is w or its back."""
    return after(after(m, w), back(m)) in (w, back(w))


def told_about(letter, word):
    """A word with a letter ahead and its back behind it, shortened."""
    return joined(joined((letter,), word), back_word((letter,)))


def apart_words(p, moves, word):
    """Two words whose lines share no end: a word told about others, where no end and no line is kept by all moves."""
    letters = [(k, s) for k in range(len(moves)) for s in (1, -1)]
    known, edge = [word], [word]
    # The lines of more than a few such words cannot all share ends with one another.
    while True:
        told = [told_about(letter, old) for old in edge for letter in letters]
        edge = []
        for new in told:
            m = word_move(moves, new)
            ways = [lines(p, word_move(moves, one), m)[0] for one in known]
            apart = [one for one, way in zip(known, ways) if way not in ("same", "end")]
            if apart != []:
                return (apart[0], new)
            if "same" not in ways:
                known.append(new)
                edge.append(new)


def free_words(p, moves, word):
    """The paper of two words with four sides, made of a word that stretches."""
    one, other = apart_words(p, moves, word)
    g, h = word_move(moves, one), word_move(moves, other)
    told = lines(p, g, h)
    times = 1
    if told[0] == "along":
        times = told[1] // stretch(p, g) + 1
    # Both stretch alike: so many times they stretch by more than they share.
    return ("free", shortened(one * times), shortened(other * times), four_sides(p, power(g, times), power(h, times)))


def list_kind(p, moves):
    """The first that all moves keep of a ball, a pair, a point and a line; else two words with four sides."""
    found = place(p, moves)
    if found[0] != "stretches":
        return found
    points = kept_by_all(moves)
    if points != []:
        return ("end", points[0])
    word = found[1]
    w = word_move(moves, word)
    if all([leads_line(m, w) for m in moves]):
        return ("line", word)
    return free_words(p, moves, word)


def is_list_kind(p, value, many):
    """Whether any value is of the form that list_kind returns for so many moves, but for the sides."""
    if is_told(value, "end", 1):
        return is_point(value[1])
    if is_told(value, "line", 1):
        return is_word(value[1], many)
    if is_told(value, "free", 3):
        return is_word(value[1], many) and is_word(value[2], many)
    return is_place(p, value)


def does_asked(p, moves, value, m):
    """Whether a move does what the kind that a value tells asks of each move."""
    if value[0] == "end":
        return led_point(m, value[1]) == value[1]
    if value[0] == "line":
        return leads_line(m, word_move(moves, value[1]))
    return value[0] == "free" or keeps_place(p, m, value)


def rests(p, moves, value):
    """Whether no move exchanges the two of a pair, or the move of a line's word does not stretch."""
    if value[0] == "pair":
        return all([led(p, m, value[1]) == value[1] for m in moves])
    return value[0] == "line" and stretch(p, word_move(moves, value[1])) == 0


def is_ahead(p, moves, value):
    """Whether something is there that stands ahead of the kind that a value tells."""
    if value[0] == "end":
        return place(p, moves)[0] != "stretches"
    return value[0] == "line" and kept_by_all(moves) != []


def judge_list(p, moves, value):
    """None if any value tells the kind of a list rightly, else its first fault."""
    if not is_list_kind(p, value, len(moves)):
        return ("form",)
    for k, m in enumerate(moves):
        if not does_asked(p, moves, value, m):
            return ("moved", k)
    if rests(p, moves, value):
        return ("rests",)
    if value[0] == "free":
        one, other = [word_move(moves, word) for word in value[1:3]]
        fault = judge_sides(p, one, other, value[3])
        if fault is not None:
            return ("sides", fault)
    if is_ahead(p, moves, value):
        return ("ahead",)
    return None
