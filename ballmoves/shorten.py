"""Two moves that stretch, shortened: until four sides show that no word of them rests, or a word rests."""

from ballmoves.forms import is_told
from ballmoves.fractions import is_number
from ballmoves.kinds import stretch
from ballmoves.lines import lines
from ballmoves.moves import after, back
from ballmoves.points import is_point
from ballmoves.sides import four_sides, is_sides, judge_sides
from ballmoves.words import back_word, is_letter, joined

SHARED = ("same", "end")


def changed(changes):
    """The pair of the words behind a list of changes."""
    words = [((0, 1),), ((1, 1),)]
    for k, s in changes:
        other = words[1 - k]
        if s == -1:
            other = back_word(other)
        words[k] = joined(other, words[k])
    return (words[0], words[1])


def moves_behind(g, h, changes):
    """The moves of both words behind a list of changes."""
    moves = [g, h]
    for k, s in changes:
        other = moves[1 - k]
        if s == -1:
            other = back(other)
        moves[k] = after(other, moves[k])
    return moves


def next_change(p, one, other):
    """The change that shortens one of two moves by the other one, which stretches by less, or as much."""
    way = lines(p, one, other)[2]
    if stretch(p, other) < stretch(p, one):
        return (0, -way)
    return (1, -way)


def verdict_of(p, one, other):
    """What two moves, whose lines share no end, show as they are; None if they have to be changed."""
    for k, m in enumerate((one, other)):
        if stretch(p, m) == 0:
            return ("rests", k)
    sides = four_sides(p, one, other)
    if sides is None:
        return None
    return ("free", sides)


def shorten(p, g, h):
    """The changes behind which two moves show what they are, and what they show then."""
    told = lines(p, g, h)
    if told[0] in SHARED:
        return ([], told)
    changes = []
    one, other = g, h
    verdict = verdict_of(p, one, other)
    while verdict is None:
        change = next_change(p, one, other)
        changes.append(change)
        one, other = moves_behind(one, other, [change])
        verdict = verdict_of(p, one, other)
    return (changes, verdict)


def is_verdict(p, value):
    """Whether any value is of the form of a verdict."""
    if is_told(value, "same", 1):
        return is_number(value[1]) and value[1] in (1, -1)
    if is_told(value, "rests", 1):
        return is_number(value[1]) and value[1] in (0, 1)
    if is_told(value, "end", 1):
        return is_point(value[1])
    return is_told(value, "free", 1) and is_sides(p, value[1], 4)


def is_shortening(p, value):
    """Whether any value is of the form that shorten returns, its changes in a list or a tuple."""
    if not isinstance(value, tuple) or len(value) != 2 or not isinstance(value[0], (list, tuple)):
        return False
    # Changes are of the same form as letters of two moves.
    return all([is_letter(change, 2) for change in value[0]]) and is_verdict(p, value[1])


def judge_shorten(p, g, h, value):
    """None if any value shows what two moves are, else its first fault."""
    told = lines(p, g, h)
    if not is_shortening(p, value):
        return ("form",)
    changes, verdict = value
    if told[0] in SHARED or verdict[0] in SHARED:
        if verdict == told:
            return None
        return ("lines",)
    moves = moves_behind(g, h, changes)
    if verdict[0] == "rests":
        if stretch(p, moves[verdict[1]]) > 0:
            return ("stretches", verdict[1])
        return None
    fault = judge_sides(p, moves[0], moves[1], verdict[1])
    if fault is None:
        return None
    return ("sides", fault)
