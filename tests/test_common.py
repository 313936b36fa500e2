import unittest

from ballmoves.common import common_balls, keeping, nearest_common
from ballmoves.errors import TooMany
from ballmoves.leads import led
from ballmoves.moves import after, back, power
from ballmoves.roads import steps
from brute import ROOT, key, tree
from some_moves import some_balls
from test_moves import STILL
from test_places import some_lists
from values import same, unchanged

MOST = {2: 5, 3: 3, 5: 2, 97: 1}
UP, TURN, OVER = (1, 1, 0, 1), (0, 1, 1, 0), (0, 2, 1, 0)


def kept_by_all(p, moves, ball):
    return all(led(p, m, ball) == ball for m in moves)


class Common(unittest.TestCase):
    def test_by_search(self):
        for p in MOST:
            counts = set()
            for start in [ROOT] + some_balls(p)[1::3]:
                around = tree(p, start, MOST[p])
                for moves in some_lists(p)[::2]:
                    kept = sorted([ball for ball in around if kept_by_all(p, moves, ball)], key=key)
                    for n in range(MOST[p] + 1):
                        expected = [ball for ball in kept if around[ball] <= n]
                        same(self, unchanged(self, common_balls, p, moves, start, n), expected)
                        counts.add(min(len(expected), 4))
                    same(self, common_balls(p, tuple(moves), start, MOST[p]), kept)
                    self.assert_nearest(p, moves, start, around, kept)
            self.assertLessEqual({0, 1, 4}, counts)

    def assert_nearest(self, p, moves, start, around, kept):
        found = unchanged(self, nearest_common, p, moves, start)
        same(self, nearest_common(p, tuple(moves), start), found)
        if kept:
            least = min(around[ball] for ball in kept)
            same(self, [found], [ball for ball in kept if around[ball] == least])
        elif found is not None:
            self.assertTrue(kept_by_all(p, moves, found))
            self.assertGreater(steps(p, start, found), MOST[p])

    def test_far_away(self):
        t = power((2, 1, 0, 1), 12)
        moves = [after(t, after(m, back(t))) for m in (UP, TURN)]
        there = led(2, t, ROOT)
        away = steps(2, ROOT, there)
        same(self, nearest_common(2, moves, ROOT), there)
        for n in (0, 1, 6, away - 1):
            same(self, common_balls(2, moves, ROOT, n), [])
        same(self, common_balls(2, moves, ROOT, away), [there])
        same(self, common_balls(2, moves, there, 0), [there])
        same(self, common_balls(2, moves, there, 6), [there])

    def test_named_cases(self):
        same(self, nearest_common(2, [OVER], ROOT), None)
        same(self, common_balls(2, [OVER], ROOT, 6), [])
        same(self, nearest_common(2, [(2, 0, 0, 1), UP], ROOT), None)
        same(self, nearest_common(2, [STILL], (40, (1, 1))), (40, (1, 1)))
        same(self, common_balls(2, [STILL], (40, (1, 1)), 0), [(40, (1, 1))])
        same(self, nearest_common(2, [UP, (1, 0, 1, 1)], (-40, (0, 1))), ROOT)
        same(self, nearest_common(97, [UP], (5, (96, 1))), (0, (0, 1)))
        # Each two keep a ball in common, and so do all three.
        same(self, nearest_common(2, [UP, (1, 0, 4, 1), (1, 2, 0, 1)], (9, (0, 1))), ROOT)
        same(self, nearest_common(2, [(1, 4, 0, 1), (1, 0, 1, 1)], (-9, (0, 1))), ROOT)
        same(self, nearest_common(2, [(1, 4, 0, 1), (1, 0, 1, 1)], (9, (0, 1))), (2, (0, 1)))
        same(self, nearest_common(2, [(1, 1, 0, 1), (1, 0, 1, 1), (1, 0, 0, 3)], (9, (0, 1))), ROOT)
        same(self, nearest_common(2, [(1, 1, 0, 4), UP], ROOT), None)
        same(self, nearest_common(3, [(1, 1, 0, 4), (1, 0, 9, 1)], (3, (2, 1))), ROOT)

    def test_none_in_common(self):
        away = after((8, 1, 0, 1), after(TURN, back((8, 1, 0, 1))))
        for ball in some_balls(2):
            same(self, nearest_common(2, [(0, 1, -1, 1), away], ball), None)
            same(self, common_balls(2, [(0, 1, -1, 1), away], ball, 6), [])

    def test_too_many(self):
        # Of all balls, by p and n: 1, and (p + 1) (p ** n - 1) / (p - 1) more.
        for p, n, count in [(2, 6, 190), (3, 6, 1457), (5, 4, 937), (11, 3, 1597), (43, 2, 1937), (97, 1, 99)]:
            self.assertEqual(len(common_balls(p, [STILL], ROOT, n)), count)
            deep = (1, p ** 6, 0, 1)
            self.assertEqual(len(common_balls(p, [STILL, deep], (1, (0, 1)), n - 1)), len(tree(p, ROOT, n - 1)))
        for p, n in [(3, 7), (5, 5), (5, 6), (11, 4), (47, 2), (97, 2), (97, 6)]:
            with self.assertRaises(TooMany):
                unchanged(self, common_balls, p, [STILL, (1, p ** 6, 0, 1)], ROOT, n)
        self.assertEqual(len(common_balls(97, [STILL, (1, 0, 0, 98)], ROOT, 1)), 99)
        same(self, common_balls(97, [UP, TURN], ROOT, 6), [ROOT])

    def test_new_lists(self):
        found = common_balls(2, [UP], ROOT, 2)
        found.clear()
        self.assertEqual(len(common_balls(2, [UP], ROOT, 2)), 4)


class Keeping(unittest.TestCase):
    def test_by_search(self):
        for p in MOST:
            told = []
            for moves in some_lists(p) + [[STILL, (1, p, 0, 1)], [(1, p * p, p * p, 1 + p * p)], [STILL], [(1, 0, 0, 1 + p)]]:
                for n in range(MOST[p] + 1):
                    expected = all(kept_by_all(p, moves, ball) for ball in tree(p, ROOT, n))
                    same(self, unchanged(self, keeping, p, moves, n), expected)
                    same(self, keeping(p, tuple(moves), n), expected)
                    told.append((n > 0, expected))
            self.assertEqual(len(set(told)), 4)

    def test_never_too_many(self):
        for p in (2, 97):
            for r in range(7):
                m = (1, p ** r, 0, 1)
                for n in range(7):
                    same(self, keeping(p, [STILL, m, back(m)], n), n <= r)
                    same(self, keeping(p, [after((1, 0, 1, 1), after(m, (1, 0, -1, 1)))], n), n <= r)
            same(self, keeping(p, [STILL], 6), True)
        same(self, keeping(3, [(2, 0, 0, 1)], 0), True)
        same(self, keeping(2, [(2, 0, 0, 1)], 0), False)
        same(self, keeping(2, [OVER], 0), False)
        same(self, keeping(2, [(1, 2, 0, 1), (1, 1, 0, 1)], 1), False)


if __name__ == "__main__":
    unittest.main()
