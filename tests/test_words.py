import unittest
from itertools import product

from ballmoves.errors import TooMany
from ballmoves.moves import after, back
from ballmoves.words import back_word, is_word, joined, shortened, word_move, words
from test_moves import MOVES, STILL
from values import GREAT, NEVER, broken, same, unchanged

A, B, C = (0, 1), (1, 1), (2, 1)
NOT_A, NOT_B = (0, -1), (1, -1)
LETTERS = [A, NOT_A, B, NOT_B]
SHORT = [word for n in range(6) for word in product(LETTERS, repeat=n)]


def is_short(word):
    return all((k, s) != (j, -t) for (k, s), (j, t) in zip(word, word[1:]))


def slow_shortened(word):
    """Takes out the last two neighbours that shorten it, again and again."""
    while not is_short(word):
        at = max(k for k in range(len(word) - 1) if not is_short(word[k:k + 2]))
        word = word[:at] + word[at + 2:]
    return word


class IsWord(unittest.TestCase):
    def test_words(self):
        for word in SHORT[:60] + [(A,) * 40, (B, NOT_B) * 20, ()]:
            same(self, unchanged(self, is_word, word, 2), True)
            same(self, is_word(word, 5), True)
        same(self, is_word((), 1), True)
        same(self, is_word((A, NOT_A), 1), True)

    def test_letters_out_of_range(self):
        for many in range(1, 6):
            for k in range(-2, 8):
                for s in (1, -1):
                    same(self, is_word(((k, s),), many), 0 <= k < many)
                    same(self, is_word((A, (k, s)), many), 0 <= k < many)
        for s in (0, 2, -2, GREAT, -GREAT):
            same(self, is_word(((0, s),), 2), False)
        for k in (GREAT, -GREAT, -1):
            same(self, is_word(((k, 1),), 2), False)

    def test_any_value(self):
        for value in NEVER + [A, (A, None), (A, ()), (A, (0, 1, 1)), [A], (list(A),), ((0,),), ((True, 1),), ((0, True),),
                              ((1, True), A), ((False, 1),), ((0, "1"),), ("01",), {A: 1}, ((A,),), (A, 0), "[0]"]:
            if value != () and value != ((0, 1),) and value != ((0, 1), (0, 1), (0, 1)):
                same(self, unchanged(self, is_word, value, 2), False)
        for word in [(A,), (B, NOT_A)]:
            for value in broken(word):
                if value not in (word[:-1], word + word[-1:]):
                    same(self, is_word(value, 2), False)


class Shortened(unittest.TestCase):
    def test_back_word(self):
        for word in SHORT:
            expected = tuple((word[-1 - k][0], -word[-1 - k][1]) for k in range(len(word)))
            same(self, unchanged(self, back_word, word), expected)
            same(self, back_word(expected), word)
        same(self, back_word(()), ())

    def test_shortened(self):
        for word in SHORT:
            same(self, unchanged(self, shortened, word), slow_shortened(word))
        same(self, shortened((A, B, NOT_B, NOT_A)), ())
        same(self, shortened((A, B, C, (2, -1), NOT_B, NOT_A, B)), (B,))
        same(self, shortened((A, NOT_A, NOT_A, A, A)), (A,))
        same(self, shortened((A,) * 20 + (NOT_A,) * 20), ())
        same(self, shortened((NOT_A,) * 18 + (B,) * 3 + (A,) * 19), (NOT_A,) * 18 + (B,) * 3 + (A,) * 19)

    def test_joined(self):
        for one in SHORT[:85]:
            for other in SHORT[:85:2]:
                same(self, unchanged(self, joined, one, other), slow_shortened(one + other))
        for word in SHORT:
            same(self, joined(word, back_word(word)), ())
            same(self, joined((), word), slow_shortened(word))


class Words(unittest.TestCase):
    def test_in_order(self):
        for many in (1, 2, 3):
            letters = [(k, s) for k in range(many) for s in (1, -1)]
            for n in range(4):
                expected = [word for m in range(n + 1) for word in product(letters, repeat=m) if is_short(word)]
                same(self, words(many, n), expected)
        same(self, words(5, 0), [()])
        same(self, words(5, 1), [()] + [((k, s),) for k in range(5) for s in (1, -1)])

    def test_too_many(self):
        # With one move there are 2 n + 1; with more, letters by letters less one again and again.
        for many, most, count in [(1, 999, 1999), (2, 6, 1457), (3, 4, 937), (4, 3, 457), (5, 3, 911)]:
            found = words(many, most)
            self.assertEqual((len(found), len(set(found))), (count, count))
            for n in (most + 1, most + 2, 1000):
                with self.assertRaises(TooMany):
                    words(many, n)

    def test_new_lists(self):
        for many, n in [(1, 0), (2, 2)]:
            found = words(many, n)
            found.clear()
            self.assertNotEqual(words(many, n), [])


class WordMoves(unittest.TestCase):
    def test_letters_one_by_one(self):
        for moves in [[MOVES[2], MOVES[6]], [MOVES[4], MOVES[7]], [MOVES[10], MOVES[8]], [STILL, MOVES[1]]]:
            for word in SHORT[:341]:
                expected = STILL
                for k, s in reversed(word):
                    expected = after(moves[k] if s == 1 else back(moves[k]), expected)
                same(self, unchanged(self, word_move, moves, word), expected)
                same(self, word_move(tuple(moves), word), expected)

    def test_named_words(self):
        same(self, word_move([MOVES[2]], ()), STILL)
        same(self, word_move(MOVES[1:6], ((4, -1), (0, 1))), after(back(MOVES[5]), MOVES[1]))
        same(self, word_move([(1, 1, 0, 1)], (A,) * 20), (1, 20, 0, 1))
        same(self, word_move([(1, 1, 0, 1), (2, 0, 0, 1)], (B, A, NOT_B)), (1, 2, 0, 1))
        same(self, word_move([(1, 1, 0, 1), (2, 0, 0, 1)], (A, B)), (2, 1, 0, 1))

    def test_backs(self):
        for word in SHORT[:200]:
            moves = [MOVES[7], MOVES[4]]
            same(self, word_move(moves, back_word(word)), back(word_move(moves, word)))
            same(self, word_move(moves, shortened(word)), word_move(moves, word))


if __name__ == "__main__":
    unittest.main()
