"""Fractions, points, balls, moves and words, written and read."""

from ballmoves.balls import is_ball
from ballmoves.errors import BadText
from ballmoves.fractions import is_fraction
from ballmoves.moves import is_move
from ballmoves.points import FAR

CHUNK_FIGURES = 60
CHUNK = 10 ** 60
MOST_FIGURES = 200
MOST_BALL_FIGURES = 3


def number_text(n):
    """The decimal figures of an integer, with a sign if it is below 0."""
    left = abs(n)
    chunks = []
    # Python refuses to write numbers of many thousand figures at once.
    while left >= CHUNK:
        left, chunk = divmod(left, CHUNK)
        chunks.append(str(chunk).zfill(CHUNK_FIGURES))
    chunks.append(str(left))
    if n < 0:
        chunks.append("-")
    return "".join(chunks[::-1])


def fraction_text(x):
    """A fraction, written."""
    if x[1] == 1:
        return number_text(x[0])
    return number_text(x[0]) + "/" + number_text(x[1])


def point_text(q):
    """A point, written."""
    if q == FAR:
        return "far"
    return fraction_text(q)


def ball_text(ball):
    """A ball, written."""
    return "<" + number_text(ball[0]) + " " + fraction_text(ball[1]) + ">"


def move_text(m):
    """A move, written."""
    return "(" + " ".join([number_text(part) for part in m]) + ")"


def letter_text(letter):
    """A letter of a word, written."""
    if letter[1] < 0:
        return number_text(letter[0]) + "-"
    return number_text(letter[0])


def word_text(word):
    """A word, written."""
    return "[" + " ".join([letter_text(letter) for letter in word]) + "]"


def list_text(moves):
    """A list of moves, written."""
    return ", ".join([move_text(m) for m in moves])


def refuse_no_text(text):
    """Refuse a value that is no string."""
    if not isinstance(text, str):
        raise BadText(0)


def refuse_more(text, at):
    """Refuse what stands behind a whole text."""
    if at < len(text):
        raise BadText(at)


def follows(text, at, sign):
    """Whether a sign stands at a place of a text."""
    return text[at:at + 1] == sign


def past(text, at, signs):
    """The place behind signs that have to follow."""
    for sign in signs:
        if not follows(text, at, sign):
            raise BadText(at)
        at += 1
    return at


def is_figure(text, at, least):
    """Whether a figure from least on stands at a place of a text."""
    return least <= text[at:at + 1] <= "9"


def count_at(text, at, least, most):
    """The integer of at most so many figures, the first one from least on, and the place behind it."""
    if not is_figure(text, at, least):
        raise BadText(at)
    end = at + 1
    if not follows(text, at, "0"):
        while end < at + most and is_figure(text, end, "0"):
            end += 1
    return (int(text[at:end]), end)


def number_at(text, at, most):
    """The integer of at most so many figures, with or without a sign, and the place behind it."""
    if not follows(text, at, "-"):
        return count_at(text, at, "0", most)
    count, end = count_at(text, at + 1, "1", most)
    return (-count, end)


def fraction_at(text, at):
    """The fraction at a place of a text, and the place behind it."""
    upper, at = number_at(text, at, MOST_FIGURES)
    if not follows(text, at, "/"):
        return ((upper, 1), at)
    lower, at = count_at(text, at + 1, "0", MOST_FIGURES)
    if lower == 1 or not is_fraction((upper, lower)):
        raise BadText(at)
    return ((upper, lower), at)


def move_at(text, at):
    """The move at a place of a text, and the place behind it."""
    numbers = []
    for sign in ("(", " ", " ", " "):
        number, at = number_at(text, past(text, at, sign), MOST_FIGURES)
        numbers.append(number)
    at = past(text, at, ")")
    if not is_move(tuple(numbers)):
        raise BadText(at)
    return (tuple(numbers), at)


def letter_at(text, at):
    """The letter at a place of a text, and the place behind it."""
    k, at = count_at(text, at, "0", MOST_FIGURES)
    if follows(text, at, "-"):
        return ((k, -1), at + 1)
    return ((k, 1), at)


def read_fraction(text):
    """The fraction that any value tells as a text."""
    refuse_no_text(text)
    x, at = fraction_at(text, 0)
    refuse_more(text, at)
    return x


def read_point(text):
    """The point that any value tells as a text."""
    refuse_no_text(text)
    if not follows(text, 0, "f"):
        return read_fraction(text)
    refuse_more(text, past(text, 0, "far"))
    return FAR


def read_ball(p, text):
    """The ball that any value tells as a text."""
    refuse_no_text(text)
    n, at = number_at(text, past(text, 0, "<"), MOST_BALL_FIGURES)
    q, at = fraction_at(text, past(text, at, " "))
    at = past(text, at, ">")
    if not is_ball(p, (n, q)):
        raise BadText(at)
    refuse_more(text, at)
    return (n, q)


def read_move(text):
    """The move that any value tells as a text."""
    refuse_no_text(text)
    m, at = move_at(text, 0)
    refuse_more(text, at)
    return m


def read_word(text):
    """The word that any value tells as a text."""
    refuse_no_text(text)
    at = past(text, 0, "[")
    letters = []
    if not follows(text, at, "]"):
        letter, at = letter_at(text, at)
        letters.append(letter)
        while follows(text, at, " "):
            letter, at = letter_at(text, at + 1)
            letters.append(letter)
    refuse_more(text, past(text, at, "]"))
    return tuple(letters)


def read_list(text):
    """The list of moves that any value tells as a text."""
    refuse_no_text(text)
    moves = []
    if text == "":
        return moves
    m, at = move_at(text, 0)
    moves.append(m)
    while at < len(text):
        m, at = move_at(text, past(text, at, ", "))
        moves.append(m)
    return moves
