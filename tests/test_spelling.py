import unittest
from itertools import product

from ballmoves.leads import led
from ballmoves.moves import back, power
from ballmoves.roads import on_side
from ballmoves.sides import four_sides, judge_sides
from ballmoves.spelling import spelled, tight
from ballmoves.words import is_word, shortened, word_move, words
from brute import ROOT, tree
from some_moves import some_balls
from test_sides import pairs_at
from values import same, unchanged

HALF, PULL = (1, 0, 0, 2), (1, 3, -1, 5)
ONE = (1, (1, 1))
SIDES = ((ROOT, (1, (0, 1))), (ROOT, (-1, (0, 1))), (ONE, (2, (1, 1))), (ONE, (2, (3, 1))))
# These are four sides of powers, too, and not tight: the second and the fourth one have more than what is led there.
WIDE = [(power(HALF, 3), PULL, SIDES), (HALF, power(PULL, 2), SIDES), (power(HALF, 2), power(PULL, 5), SIDES)]


def groups_at(p):
    """Moves that have four sides, with them."""
    pairs = pairs_at(p)
    found = [(g, h, four_sides(p, g, h)) for g, h in pairs[::2]]
    found = [row for row in found if row[2] is not None]
    return found + [row for row in WIDE if p == 2]


class Tight(unittest.TestCase):
    def test_against_led_balls(self):
        for p in (2, 3):
            for g, h, sides in groups_at(p):
                self.assertIsNone(judge_sides(p, g, h, sides))
                found = unchanged(self, tight, p, g, h, sides)
                self.assertEqual((type(found), len(found), found[0], found[2]), (tuple, 4, sides[0], sides[2]))
                same(self, judge_sides(p, g, h, found), None)
                for k, m in enumerate((g, h)):
                    for ball in self.near(p, found):
                        self.assertEqual(not on_side(p, found[2 * k], ball), on_side(p, found[2 * k + 1], led(p, m, ball)))

    def near(self, p, sides):
        return {ball for side in sides for ball in tree(p, side[0], 3 if p == 2 else 2)}

    def test_tight_ones_stay(self):
        for p in (2, 3, 5, 97):
            for g, h, sides in groups_at(p):
                found = tight(p, g, h, sides)
                same(self, tight(p, g, h, found), found)
        same(self, tight(2, HALF, PULL, SIDES), SIDES)
        for g, h, sides in WIDE:
            self.assertNotEqual(tight(2, g, h, sides), sides)
        same(self, tight(2, power(HALF, 3), PULL, SIDES), SIDES[:1] + (((-2, (0, 1)), (-3, (0, 1))),) + SIDES[2:])


class Spelled(unittest.TestCase):
    def look(self, p, g, h, sides, ball):
        word, rest = unchanged(self, spelled, p, g, h, sides, ball)
        self.assertTrue(type(word) is tuple and is_word(word, 2) and shortened(word) == word)
        self.assertFalse([side for side in tight(p, g, h, sides) if on_side(p, side, rest)])
        same(self, led(p, word_move([g, h], word), rest), ball)
        return word, rest

    def test_there(self):
        for p in (2, 3, 5, 97):
            for g, h, sides in groups_at(p):
                balls = some_balls(p) + [ball for side in sides for ball in side]
                balls += [(60, (0, 1)), (-60, (0, 1)), (30, (p + 1, p ** 29))]
                self.assertTrue(any(len(self.look(p, g, h, sides, ball)[0]) > 0 for ball in balls))

    def test_all_near_balls(self):
        for p, most in ((2, 7), (3, 4)):
            for g, h, sides in groups_at(p)[::4] + groups_at(p)[-2:]:
                found = [self.look(p, g, h, sides, ball) for ball in tree(p, ROOT, most)]
                # Each ball has its own pair, and a ball on none of the sides is its own rest.
                self.assertEqual(len(set(found)), len(found))
                for ball in tree(p, ROOT, most):
                    free = not any(on_side(p, side, ball) for side in tight(p, g, h, sides))
                    self.assertEqual(spelled(p, g, h, sides, ball) == ((), ball), free)

    def test_and_back(self):
        for p in (2, 3, 97):
            for g, h, sides in groups_at(p)[::3] + groups_at(p)[-1:]:
                rests = {self.look(p, g, h, sides, ball)[1] for ball in some_balls(p)[:5]}
                for word, rest in product(words(2, 3), rests):
                    same(self, spelled(p, g, h, sides, led(p, word_move([g, h], word), rest)), (word, rest))

    def test_long_words(self):
        word = ((0, 1), (1, -1), (1, -1), (0, 1), (0, 1), (1, 1)) * 5
        for g, h in ((HALF, PULL), (HALF, power(PULL, 2)), (power(HALF, 3), PULL)):
            for rest in (ROOT, ONE):
                same(self, spelled(2, g, h, SIDES, led(2, word_move([g, h], word), rest)), (word, rest))

    def test_on_each_side(self):
        for number, letter in enumerate([(0, -1), (0, 1), (1, -1), (1, 1)]):
            same(self, spelled(2, HALF, PULL, SIDES, SIDES[number][1])[0][0], letter)
            same(self, spelled(2, HALF, PULL, SIDES, SIDES[number][0]), ((), SIDES[number][0]))
        same(self, spelled(2, HALF, PULL, SIDES, (60, (0, 1))), (((0, -1),) * 60, ROOT))
        same(self, spelled(2, HALF, PULL, SIDES, (-60, (0, 1))), (((0, 1),) * 60, ROOT))
        same(self, spelled(2, power(HALF, 3), PULL, SIDES, (-1, (0, 1))), ((), (-1, (0, 1))))
        same(self, spelled(2, back(HALF), PULL, (SIDES[1], SIDES[0]) + SIDES[2:], (1, (0, 1))), (((0, 1),), ROOT))


if __name__ == "__main__":
    unittest.main()
