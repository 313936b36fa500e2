"""Consoles: a house, and lines that tell what to do in it or ask what is there."""

from ballmoves.book import is_name, length_of, look_up, stands_text, state_text, value_of
from ballmoves.deeds import read_deed
from ballmoves.errors import BadText, BallError, Missing
from ballmoves.house import House
from ballmoves.kinds import stretch
from ballmoves.primes import PRIMES
from ballmoves.texts import move_text, number_text
from ballmoves.whole import whole

MOST_FIGURES = 30
MOST_TOLD = 5
WHAT = "what"


def is_number_text(text):
    """Whether a text is 0, or at most thirty figures of which the first one is not 0."""
    if not 1 <= len(text) <= MOST_FIGURES or not all(["0" <= sign <= "9" for sign in text]):
        return False
    return text == "0" or text[0] != "0"


def is_prime_word(words):
    """Whether a list has one word, and this is a prime up to 97 in figures."""
    return words in [[str(p)] for p in PRIMES]


def are_names(words, most):
    """Whether words are names, one or more, but not more than are let."""
    return 1 <= len(words) <= most and all([is_name(word) for word in words])


def whole_text(moves):
    """Whether moves can be told in whole numbers, written, with the prime that bars it."""
    told = whole(moves)
    if told[0] == "whole":
        return "yes"
    return "no " + str(told[1])


def deed_of(line):
    """The deed that a line is; None if it is none."""
    try:
        return read_deed(line)
    except BadText:
        return None


def has_done(house, words):
    """Does what a line of one word, or of a word and a branch's name, tells; whether it is such a line."""
    word, names = words[0], words[1:]
    if words == ["undo"]:
        house.undo()
    elif words == ["redo"]:
        house.redo()
    elif word == "go" and are_names(names, 1):
        house.go(names[0])
    elif word == "merge" and are_names(names, 1):
        house.merge(names[0])
    elif word == "branch" and are_names(names, 1):
        house.branch(names[0])
    else:
        return False
    return True


def told_of(state, word, name):
    """What a line asks of one name of a state."""
    if word == "show":
        return stands_text(look_up(state, name))
    if word == "value":
        return move_text(value_of(state, name))
    if word == "length":
        return number_text(length_of(state, name))
    return WHAT


def asked(house, words):
    """The answer to a line that changes nothing."""
    word, names = words[0], words[1:]
    state = house.state()
    if words == ["show"]:
        return state_text(state)
    if word == "at" and len(names) == 1 and is_number_text(names[0]):
        return state_text(house.state_at(int(names[0])))
    if word == "stretch" and is_prime_word(names[:1]) and are_names(names[1:], 1):
        return number_text(stretch(int(names[0]), value_of(state, names[1])))
    if word == "whole" and are_names(names, MOST_TOLD):
        return whole_text([value_of(state, name) for name in names])
    if are_names(names, 1):
        return told_of(state, word, names[0])
    return WHAT


def answer(house, line):
    """The answer to a line, any string, behind what it does."""
    words = line.split(" ")
    deed = deed_of(line)
    if deed is not None:
        house.do(deed)
    elif not has_done(house, words):
        return asked(house, words)
    return number_text(house.present())


class Console:
    """A house of its own, and the lines said to it."""

    def __init__(self):
        self._house = House()

    def house(self):
        """The house, always the same one."""
        return self._house

    def say(self, line):
        """Does what a line, any value, tells, and returns the answer."""
        if not isinstance(line, str):
            return WHAT
        try:
            return answer(self._house, line)
        except (BallError, Missing):
            return "refused"
