import unittest
from itertools import product

from ballmoves.common import common_balls
from ballmoves.errors import TooGreat, TooMany
from ballmoves.grids import grid_of, is_whole_at, told_by
from ballmoves.kinds import kind
from ballmoves.leads import led
from ballmoves.moves import after, back, is_move, power, size
from ballmoves.roads import steps
from ballmoves.whole import bad_primes, grids_near, judge_whole, order, orders, whole
from ballmoves.words import word_move
from brute import ROOT, tree
from test_grids import is_form
from test_moves import MOVES, STILL
from values import GREAT, NEVER, broken, same, unchanged

UP, TURN, TWICE, OVER, ROUND, WIDE = (1, 1, 0, 1), (0, 1, 1, 0), (2, 0, 0, 1), (0, 2, 1, 0), (1, -1, 1, 0), (2, -4, 1, 0)
HALF_UP = (2, 1, 0, 2)
ALL_PRIMES = [p for p in range(2, 98) if all(p % k for k in range(2, p))]


def told_at_grid(t, moves):
    """Moves that are whole at t."""
    return [after(t, after(m, back(t))) for m in moves]


LISTS = [[STILL], [UP, TURN], [WIDE], [OVER], [ROUND, WIDE], [HALF_UP, UP], [TWICE], [UP, TWICE, OVER], [(0, 6, 1, 0)],
         [HALF_UP, (3, 1, 0, 3)], [HALF_UP, (1, 0, 2, 1)], [HALF_UP, (3, 1, 0, 3), (1, 0, 36, 1)], [(0, 4, 1, 0), (0, 9, 1, 0)],
         [(0, 9, 1, 0), (0, 36, 1, 0)], [(1, 0, 0, -1), (0, 4, 1, 0), TURN], [(0, 25, 4, 0)], [(0, 1, 3, 0), (0, 3, 1, 0)],
         told_at_grid((6, 5, 0, 7), [UP, TURN, (0, 1, -1, 0)]), told_at_grid((97, 1, 0, 2), [(2, 1, 1, 1), (0, 1, -1, 1)]),
         told_at_grid((8, 1, 0, 9), [UP, (1, 4, 0, 1), (1, 0, 12, 1)]), [(1, 1, -1, 1)], [(1, 1, -1, 1), UP], [(2, -1, 1, 1), UP],
         [STILL, (5, 0, 0, 1), (0, 5, 1, 0)], [(0, 97, 1, 0)], [(4, 0, 0, 1)] * 5]


def slow_words(many):
    return [((k, 1),) for k in range(many)] + [((i, 1), (j, 1)) for i, j in product(range(many), repeat=2) if i < j]


class BadPrimes(unittest.TestCase):
    def test_all_lists(self):
        for moves in LISTS:
            expected = [p for p in ALL_PRIMES if any(size(m) % p == 0 for m in moves)]
            same(self, unchanged(self, bad_primes, moves), expected)
            same(self, bad_primes(tuple(moves)), expected)
            bad_primes(moves).append(1)
            same(self, bad_primes(moves), expected)

    def test_too_great(self):
        for sizes, prime in [([101], 101), ([2, 101], 101), ([3, 2 * 103 * 101, 107], 101), ([103, 101], 103),
                             ([97, 97 * 1009, 101], 1009), ([10403], 101), ([999983], 999983), ([-101], 101), ([2 * 3 * 5, -107 ** 2], 107)]:
            moves = [(abs(n), 0, 0, 1 if n > 0 else -1) for n in sizes]
            for call in (bad_primes, whole, lambda told: grids_near(told, 0), lambda told: grids_near(tuple(told), 4)):
                with self.assertRaises(TooGreat) as caught:
                    unchanged(self, call, moves)
                same(self, caught.exception.prime, prime)

    def test_what_the_package_made(self):
        # The sizes are products of prime numbers that are all far above 97.
        one, other = (999983, 0, 0, 999979), (999961, 0, 0, 999959)
        for m, prime in [(power(one, 7), 999979), (after(one, other), 999959), (told_by((1, 5, 2, 2000013), TWICE), 2000003)]:
            with self.assertRaises(TooGreat) as caught:
                bad_primes([STILL, m])
            same(self, caught.exception.prime, prime)
        same(self, bad_primes([power((2, 1, 0, 97), 200)]), [2, 97])

    def test_great_sizes(self):
        same(self, bad_primes([(999999, 1, -1, 1)]), [2, 5])
        same(self, bad_primes([(2 ** 19, 0, 0, 3 ** 12)]), [2, 3])
        same(self, bad_primes([]), [])
        with self.assertRaises(TooGreat) as caught:
            bad_primes([(999983, 0, 0, 999979)])
        self.assertEqual(caught.exception.prime, 999979)


class Whole(unittest.TestCase):
    def test_all_lists(self):
        words = set()
        for moves in LISTS:
            found = unchanged(self, whole, moves)
            same(self, whole(tuple(moves)), found)
            words.add(found[0])
            if found[0] == "whole":
                self.assert_nearest_grid(moves, found[1])
            else:
                self.assert_first_bar(moves, found)
        self.assertEqual(words, {"whole", "bars"})

    def assert_nearest_grid(self, moves, t):
        self.assertTrue(is_form(t))
        for m in moves:
            self.assertEqual(abs(size(told_by(t, m))), 1)
        for p in ALL_PRIMES:
            near = led(p, t, ROOT)
            if p not in bad_primes(moves):
                same(self, near, ROOT)
            away = steps(p, ROOT, near)
            if away > 0 and p < 10:
                inner = tree(p, ROOT, min(away - 1, 3))
                self.assertFalse([ball for ball in inner if all(led(p, m, ball) == ball for m in moves)])

    def assert_first_bar(self, moves, found):
        _, p, word = found
        self.assertNotEqual(kind(p, word_move(moves, word))[0], "keeps")
        for first in slow_words(len(moves)):
            if first == word:
                break
            self.assertEqual(kind(p, word_move(moves, first))[0], "keeps")
        for less in bad_primes(moves):
            if less < p:
                self.assertTrue(common_balls(less, moves, ROOT, 20 if less == 2 else 12) != [], (moves, less))

    def test_named_lists(self):
        same(self, whole([STILL]), ("whole", STILL))
        same(self, whole([HALF_UP]), ("whole", (1, 0, 0, 2)))
        same(self, whole([(0, 6, 1, 0)]), ("bars", 2, ((0, 1),)))
        same(self, whole([(0, 4, 1, 0), (0, 9, 1, 0)]), ("bars", 2, ((0, 1), (1, 1))))
        same(self, whole([(0, 1, 4, 0), (0, 12, 1, 0)]), ("bars", 2, ((0, 1), (1, 1))))
        same(self, whole([(0, 3, 1, 0), (0, 4, 1, 0)]), ("bars", 2, ((0, 1), (1, 1))))
        same(self, whole([STILL, (0, 3, 1, 0)]), ("bars", 3, ((1, 1),)))
        same(self, whole([STILL, (0, 3, 1, 0), (2, 0, 0, 1)]), ("bars", 2, ((2, 1),)))
        same(self, whole([STILL, (0, 9, 1, 0), (0, 1, 9, 0)]), ("bars", 3, ((1, 1), (2, 1))))
        same(self, whole([(0, 36, 1, 0)]), ("whole", (6, 0, 0, 1)))
        same(self, whole([(0, 25, 4, 0)]), ("whole", (5, 0, 0, 2)))

    def test_told_at_grids(self):
        for t in [(6, 5, 0, 7), (97, 1, 0, 2), (8, 1, 0, 9), (1, 0, 0, 36), (10, 3, 0, 77)]:
            moves = told_at_grid(t, [UP, TURN, (0, 1, -1, 0), (2, 1, 1, 1)])
            # Only one ball is kept by all of these at each prime.
            same(self, whole(moves), ("whole", t))


class Judged(unittest.TestCase):
    def test_told_ones(self):
        for moves in LISTS:
            self.assertIsNone(unchanged(self, judge_whole, moves, whole(moves)))
            self.assertIsNone(judge_whole(tuple(moves), whole(moves)))

    def test_grids(self):
        grids = MOVES + [(6, 5, 0, 7), (97, 1, 0, 2), (1, 0, 0, 2), (2, 0, 0, 1), (6, 0, 0, 1), (GREAT, 1, 0, 1)]
        for moves in LISTS:
            for t in grids + [after(whole(moves)[1], m) for m in MOVES if whole(moves)[0] == "whole"]:
                wrong = [k for k, m in enumerate(moves) if abs(size(told_by(t, m))) != 1]
                same(self, judge_whole(moves, ("whole", t)), ("move", wrong[0]) if wrong else None)

    def test_words(self):
        for moves in LISTS:
            letters = [(k, s) for k in range(len(moves)) for s in (1, -1)]
            for p in (2, 3, 5, 97):
                for word in [()] + slow_words(len(moves)) + [((0, -1),) * 3] + list(product(letters, repeat=2)):
                    keeps = kind(p, word_move(moves, word))[0] == "keeps"
                    same(self, judge_whole(moves, ("bars", p, word)), ("keeps",) if keeps else None)

    def test_moves_with_great_sizes(self):
        same(self, judge_whole([(101, 0, 0, 1)], ("whole", (101, 0, 0, 1))), ("move", 0))
        self.assertIsNone(judge_whole([(0, 101 ** 2, 1, 0)], ("whole", (101, 0, 0, 1))))
        same(self, judge_whole([(101, 0, 0, 1)], ("bars", 97, ((0, 1),))), ("keeps",))

    def test_form(self):
        for moves in [[OVER], [UP, TURN], [STILL] * 5]:
            many = len(moves)
            for paper in [("whole", (1, 1, 0, 2)), ("bars", 2, ((0, 1),))]:
                for value in broken(paper):
                    if value not in [("bars", 2, ()), ("bars", 2, ((0, 1), (0, 1)))]:
                        same(self, unchanged(self, judge_whole, moves, value), ("form",))
            for value in NEVER + [("whole",), ("whole", (2, 0, 0, 2)), ("whole", (1, 1, 1, 1)), ("whole", (-1, 0, 0, 1)),
                                  ("whole", STILL, STILL), ("whole", STILL, ()), ("bars", 2), ("bars", 4, ()), ("bars", 101, ()),
                                  ("bars", 1, ()), ("bars", -2, ()), ("bars", 2, ((many, 1),)), ("bars", 2, ((0, 2),)),
                                  ("bars", 2, (0, 1)), ("bars", 2, [(0, 1)]), ("bars", (2, 1), ()), ("bars", ((0, 1),), 2),
                                  ("bars", 2, ((0, 1),), 0), ("bar", 2, ((0, 1),)), ("stretches", ((0, 1),)), STILL, ([], STILL),
                                  ("bars", STILL), ("whole", 2, ((0, 1),)), ("whole", ((0, 1),))]:
                same(self, unchanged(self, judge_whole, moves, value), ("form",))


class Near(unittest.TestCase):
    def slow(self, moves, n):
        """All grids near by, looked for among all balls around."""
        lists = [[]]
        for p in bad_primes(moves):
            balls = [ball for ball in tree(p, ROOT, n) if all(led(p, m, ball) == ball for m in moves)]
            lists = [pairs + [(p, ball)] for pairs in lists for ball in balls]
        return sorted(grid_of(pairs) for pairs in lists)

    def test_by_search(self):
        counts = set()
        for moves in LISTS:
            for n in range(5):
                if max(bad_primes(moves), default=2) ** n < 3000:
                    found = unchanged(self, grids_near, moves, n)
                    same(self, found, self.slow(moves, n))
                    same(self, grids_near(tuple(moves), n), found)
                    counts.add(min(len(found), 3))
                    for t in found:
                        self.assertTrue(is_form(t) and is_whole_at(t, moves))
                    found.append(None)
                    self.assertNotIn(None, grids_near(moves, n))
        self.assertEqual(counts, {0, 1, 2, 3})

    def test_named_lists(self):
        for n in (0, 1, 4):
            same(self, grids_near([UP, TURN], n), [STILL])
            same(self, grids_near([TWICE], n), [])
        same(self, grids_near([WIDE], 0), [])
        same(self, grids_near([WIDE], 1), [(2, 0, 0, 1)])
        same(self, grids_near([(0, 36, 1, 0)], 1), [(6, 0, 0, 1)])
        same(self, grids_near([(3, 1, 0, 3)], 1), [(1, 0, 0, 3)])
        same(self, grids_near([(3, 1, 0, 3)], 2), [(1, 0, 0, 3), (1, 0, 0, 9)])
        same(self, grids_near([(3, 1, 0, 3)], 3), [(1, 0, 0, 3), (1, 0, 0, 9), (1, 0, 0, 27), (3, 1, 0, 9), (3, 2, 0, 9)])

    def test_too_many(self):
        # x + 1 / p ** e keeps the balls with n to -e: of those four steps away at most, 2 + 2 p, 2 + p, 2, 1 for e to 4.
        for lower, n, many in [(7 * 23 ** 2, 4, 16 * 25), (2 * 97, 3, 4 * 99), (89, 4, 180), (2 * 3 * 5, 3, 4 * 5 * 7),
                               (2 * 3 * 5 * 7, 2, 16), (97 ** 3, 4, 2), (2 ** 4 * 3 ** 4 * 5 ** 4, 4, 1), (2 ** 5, 4, 0)]:
            found = grids_near([(lower, 1, 0, lower)], n)
            self.assertEqual((len(found), len(set(found))), (many, many))
            self.assertEqual(found, sorted(found))
        for lower, n in [(11 ** 2 * 29 ** 2, 4), (2 * 97, 4), (2 * 3 * 5 * 7, 3), (2 * 3 * 5 * 7 ** 4, 4), (7 * 29 ** 2, 4)]:
            with self.assertRaises(TooMany):
                unchanged(self, grids_near, [(lower, 1, 0, lower)], n)
        # At 7 there is no ball: so there are no grids, though at 2, 3 and 5 there are 6 and 8 and 12 balls.
        same(self, grids_near([(30 * 7 ** 5, 1, 0, 30 * 7 ** 5)], 4), [])
        same(self, grids_near([STILL, (0, 7, 1, 0), (30, 1, 0, 30)], 4), [])


class Orders(unittest.TestCase):
    def test_by_powers(self):
        for m in list(product(range(-2, 3), repeat=4)) + MOVES:
            a, b, c, d = m
            if not is_move(m):
                continue
            told = [n for n in range(1, 13) if power(m, n) == STILL]
            expected = told[0] if told else None
            same(self, unchanged(self, order, m), expected)
            square, many = (a + d) ** 2, size(m)
            if m != STILL:
                by_sum = [n for n, k in ((2, 0), (3, 1), (4, 2), (6, 3)) if square == k * many]
                same(self, expected, by_sum[0] if by_sum else None)

    def test_named_orders(self):
        moves = [STILL, TURN, ROUND, (1, -1, 1, 1), (2, -1, 1, 1), UP, TWICE, OVER, (0, 999999, -1, 0), (1, 0, 0, -1)]
        expected = [1, 2, 3, 4, 6, None, None, 2, 2, 2]
        same(self, unchanged(self, orders, moves), expected)
        same(self, orders(tuple(moves)), expected)
        same(self, [order(m) for m in moves], expected)
        orders(moves).clear()
        same(self, orders(moves), expected)
        same(self, orders([]), [])
        for n, m in [(3, ROUND), (6, (2, -1, 1, 1))]:
            t = (999, 5, 7, 123)
            same(self, order(after(t, after(m, back(t)))), n)


if __name__ == "__main__":
    unittest.main()
