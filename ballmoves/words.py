"""Words of moves: tuples of letters (k, s), the move number k if s is 1, its back if s is -1."""

from ballmoves.errors import TooMany
from ballmoves.fractions import is_pair
from ballmoves.moves import STILL, after, back

MOST_WORDS = 2000


def is_letter(value, many):
    """Whether any value is a letter for lists of so many moves."""
    return is_pair(value) and 0 <= value[0] < many and value[1] in (1, -1)


def is_word(value, many):
    """Whether any value is a word for lists of so many moves."""
    return isinstance(value, tuple) and all([is_letter(letter, many) for letter in value])


def back_letter(letter):
    """The letter of the back of a letter's move."""
    return (letter[0], -letter[1])


def back_word(word):
    """The word whose move leads back."""
    return tuple([back_letter(letter) for letter in reversed(word)])


def shortened(word):
    """The word without neighbours of which one is the back of the other."""
    left = []
    for letter in word:
        if left != [] and left[-1] == back_letter(letter):
            left.pop()
        else:
            left.append(letter)
    return tuple(left)


def joined(one, other):
    """What is left, shortened, of a word and another one behind it."""
    return shortened(one + other)


def longer(layer, letters):
    """The words of a list, each with each letter behind it that does not shorten it."""
    found = []
    for word in layer:
        for letter in letters:
            if word == () or word[-1] != back_letter(letter):
                found.append(word + (letter,))
    return found


def words(many, n):
    """All words of at most n letters that cannot be shortened."""
    letters = [(k, s) for k in range(many) for s in (1, -1)]
    layer = [()]
    found = [()]
    for _ in range(n):
        layer = longer(layer, letters)
        found.extend(layer)
        if len(found) > MOST_WORDS:
            raise TooMany()
    return found


def letter_move(moves, letter):
    """The move of a letter."""
    k, s = letter
    if s == 1:
        return moves[k]
    return back(moves[k])


def word_move(moves, word):
    """The move that is made of the letters' moves, the last letter's first."""
    found = STILL
    for letter in word:
        found = after(found, letter_move(moves, letter))
    return found


def short_words(many):
    """The words of one letter of moves, and then of two letters of unlike ones, the lesser number first."""
    pairs = [((i, 1), (j, 1)) for i in range(many) for j in range(i + 1, many)]
    return [((k, 1),) for k in range(many)] + pairs
