"""The kinds of moves at a prime: a move keeps a ball, exchanges two neighbours, or stretches."""

from ballmoves.balls import ROOT, is_ball
from ballmoves.forms import is_told
from ballmoves.fractions import is_number
from ballmoves.leads import led
from ballmoves.moves import size, sum_of
from ballmoves.primes import times_in
from ballmoves.roads import on_road, steps


def stretch(p, m):
    """The length by which a move stretches, 0 if it does not."""
    if sum_of(m) == 0:
        return 0
    return max(0, times_in(p, size(m)) - 2 * times_in(p, sum_of(m)))


def led_steps(p, m, ball):
    """The steps from a ball to the one to which a move leads it."""
    return steps(p, ball, led(p, m, ball))


def gate_ball(p, m, ball):
    """The nearest ball that a move keeps, or that it exchanges with a neighbour, or that is on its line."""
    there = led(p, m, ball)
    # The road to the led ball goes to the gate, on by the stretch or the exchanged step, and from there as far again.
    return on_road(p, ball, there, (steps(p, ball, there) - stretch(p, m)) // 2)


def kind(p, m):
    """What a move does, with a ball, two balls, or its length and a ball that show it."""
    length = stretch(p, m)
    ball = gate_ball(p, m, ROOT)
    if length > 0:
        return ("stretches", length, ball)
    there = led(p, m, ball)
    if there == ball:
        return ("keeps", ball)
    if there[0] < ball[0]:
        return ("exchanges", there, ball)
    return ("exchanges", ball, there)


def has_kind_form(p, value):
    """Whether any value is of the form that kind returns."""
    if is_told(value, "keeps", 1):
        return is_ball(p, value[1])
    if is_told(value, "exchanges", 2):
        return is_ball(p, value[1]) and is_ball(p, value[2])
    return is_told(value, "stretches", 2) and is_number(value[1]) and is_ball(p, value[2])


def shows_kind(p, m, value, right):
    """Whether the balls of a value, its word and length being right, are such as told."""
    if right[0] == "exchanges":
        return value == right
    if right[0] == "keeps":
        return led_steps(p, m, value[1]) == 0
    return led_steps(p, m, value[2]) == right[1]


def judge_kind(p, m, value):
    """None if any value tells the kind of a move rightly, else its first fault."""
    if not has_kind_form(p, value):
        return ("form",)
    right = kind(p, m)
    if value[0] != right[0]:
        return ("word", right[0])
    if right[0] == "stretches" and value[1] != right[1]:
        return ("length", right[1])
    if not shows_kind(p, m, value, right):
        return ("balls",)
    return None
