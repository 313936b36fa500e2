import random
import unittest
from itertools import product

from ballmoves.rounds import parted, root, turning, turnings
from ballmoves.words import back_word, joined, shortened
from test_words import A, B, LETTERS, NOT_A, NOT_B, SHORT, is_short
from values import same, unchanged

REDUCED = [word for word in SHORT if is_short(word)]


def unshortened(word, chance):
    """A word that shortens to a word, with pairs put in."""
    word = list(word)
    for _ in range(4):
        at = chance.randrange(len(word) + 1)
        k, s = chance.choice(LETTERS)
        word[at:at] = [(k, s), (k, -s)]
    return tuple(word)


def is_round(word):
    """Whether the first letter is not the back of the last one, or there is at most one."""
    return len(word) <= 1 or word[0] != (word[-1][0], -word[-1][1])


class Parted(unittest.TestCase):
    def test_all_short_words(self):
        for word in SHORT:
            found = unchanged(self, parted, word)
            u, c = found
            self.assertEqual(type(found), tuple)
            self.assertEqual(u + c + back_word(u), shortened(word))
            self.assertTrue(is_round(c))

    def test_named_words(self):
        same(self, parted(()), ((), ()))
        same(self, parted((A, NOT_A)), ((), ()))
        same(self, parted((A,)), ((), (A,)))
        same(self, parted((A, B, A, B, NOT_A)), ((A,), (B, A, B)))
        same(self, parted((A, B, A, NOT_B, NOT_A)), ((A, B), (A,)))
        same(self, parted((A,) * 19 + (B, B) + (NOT_A,) * 19), ((A,) * 19, (B, B)))


class Turnings(unittest.TestCase):
    def test_all_short_words(self):
        for word in SHORT:
            c = parted(word)[1]
            expected = []
            for k in range(len(c) + 1):
                if c[k:] + c[:k] not in expected:
                    expected.append(c[k:] + c[:k])
            same(self, unchanged(self, turnings, word), expected)

    def test_named_words(self):
        same(self, turnings(()), [()])
        same(self, turnings((A, B, NOT_B, NOT_A)), [()])
        same(self, turnings((A, A, A)), [(A, A, A)])
        same(self, turnings((A, B, B)), [(A, B, B), (B, B, A), (B, A, B)])
        same(self, turnings((B, A, B, B, A, B, B, NOT_B)), turnings((B, A, B, B, A, B)))
        self.assertEqual([len(turnings((A,) * k + (B,))) for k in (0, 1, 39)], [1, 2, 40])
        self.assertEqual(len(turnings((A, B, B, A, B) * 8)), 5)

    def test_new_lists(self):
        for word in ((), (A, B)):
            found = turnings(word)
            found.clear()
            self.assertNotEqual(turnings(word), [])


class Roots(unittest.TestCase):
    def test_by_search(self):
        powers = {}
        for word in REDUCED:
            for n in range(1, 5):
                whole = ()
                for _ in range(n):
                    whole = joined(whole, word)
                if whole != ():
                    powers[whole] = max(powers.get(whole, (0, None)), (n, word))
        for word in REDUCED[1:]:
            n, expected = powers[word]
            if len(word) <= 4:
                same(self, root(word), (expected, n))

    def test_powers(self):
        for word in REDUCED[1::3]:
            least, n = root(word)
            for many in (1, 2, 3, 7):
                found = unchanged(self, root, word * many)
                if is_round(word):
                    same(self, found, (least, n * many))
                self.assertEqual(shortened(found[0] * found[1]), shortened(word * many))
                self.assertEqual(shortened(found[0]), found[0])

    def test_words_that_shorten(self):
        chance = random.Random(3)
        for word in REDUCED:
            same(self, root(unshortened(word, chance)), root(word))
            same(self, parted(unshortened(word, chance)), parted(word))

    def test_named_words(self):
        for word in ((), (A, NOT_A), (B, A, NOT_A, NOT_B)):
            same(self, root(word), ((), 1))
        same(self, root((A,)), ((A,), 1))
        same(self, root((NOT_A,) * 40), ((NOT_A,), 40))
        same(self, root((A, B) * 20), ((A, B), 20))
        same(self, root((A, B, A)), ((A, B, A), 1))
        same(self, root((NOT_B, A, A, A, B)), ((NOT_B, A, B), 3))
        same(self, root((A, A, B) * 2 + (A,)), ((A, A, B, A, A, B, A), 1))


class Turning(unittest.TestCase):
    def test_words_turned(self):
        chance = random.Random(5)
        for word in REDUCED:
            for x in chance.sample(REDUCED, 5):
                other = joined(joined(x, word), back_word(x))
                for one, two in ((word, other), (other, word), (unshortened(word, chance), unshortened(other, chance))):
                    found = unchanged(self, turning, one, two)
                    self.assertEqual(joined(joined(found, one), back_word(found)), shortened(two))
                    self.assertIs(type(found), tuple)

    def test_words_that_are_not(self):
        for one, other in product(REDUCED[:161:3], repeat=2):
            found = turning(one, other)
            if parted(other)[1] in turnings(one):
                self.assertEqual(joined(joined(found, one), back_word(found)), other)
            else:
                same(self, found, None)

    def test_named_words(self):
        same(self, turning((A,), (NOT_A,)), None)
        same(self, turning((), (A,)), None)
        same(self, turning((A,), ()), None)
        same(self, turning((A, B), (A, B, A, B)), None)
        same(self, turning((A, B, NOT_A, NOT_B), (B, A, NOT_B, NOT_A)), None)
        for one, other in [((), ()), ((A, NOT_A), (B, NOT_B)), ((A,), (B, A, NOT_B)), ((A, B, B), (B, A, B)), ((A,), (A,)),
                           ((A, A, B) * 9, (A, B, A) * 9), ((A, B) * 10 + (B,), (NOT_A,) * 9 + (B,) + (A, B) * 10 + (A,) * 9)]:
            found = turning(one, other)
            self.assertEqual(joined(joined(found, one), back_word(found)), shortened(other))

    def test_by_search(self):
        for one in REDUCED[:53]:
            turned = {joined(joined(x, one), back_word(x)) for x in REDUCED}
            for other in REDUCED[:53]:
                self.assertEqual(turning(one, other) is not None, other in turned)


if __name__ == "__main__":
    unittest.main()
