import random
import unittest

from ballmoves.balls import ball
from ballmoves.middles import (cut, far, hang_together, least_total, leaves, middle, peeled, pieces, reach, total)
from ballmoves.roads import least_tree
from brute import ROOT, Tree, around, key
from values import same, unchanged

TREES = {2: Tree(2, 4), 3: Tree(3, 3)}
ONE, THREE, EVEN, ODD = (2, (1, 1)), (2, (3, 1)), (1, (0, 1)), (1, (1, 1))


def some_lists(p):
    """Lists of balls, some of them twice, in no order."""
    chance = random.Random(p)
    lists = [[one] for one in TREES[p].balls[:4]] + [[ROOT, ROOT], [ROOT, EVEN], [EVEN, ROOT, EVEN], [ODD, EVEN, ODD, EVEN]]
    for many in (2, 2, 3, 3, 4, 4, 5, 6, 7, 8, 12):
        for spread in (5, 12, len(TREES[p].balls)):
            lists.append([chance.choice(TREES[p].balls[:spread]) for _ in range(many)])
    return lists


class Middles(unittest.TestCase):
    def test_far_and_reach(self):
        for p, slow in TREES.items():
            for balls in some_lists(p):
                same(self, unchanged(self, reach, p, balls), max(slow.steps(one, other) for one in balls for other in balls))
                for one in slow.balls[::3]:
                    same(self, unchanged(self, far, p, balls, one), max(slow.steps(one, other) for other in balls))

    def test_middle(self):
        for p, slow in TREES.items():
            for balls in some_lists(p):
                fars = {one: max(slow.steps(one, other) for other in balls) for one in slow.balls}
                long = max(slow.steps(one, other) for one in balls for other in balls)
                found = sorted([one for one in slow.balls if fars[one] == (long + 1) // 2], key=key)
                expected = (["ball", "pair"][len(found) - 1],) + tuple(found)
                same(self, unchanged(self, middle, p, balls), expected)
                same(self, middle(p, tuple(balls)), expected)

    def test_tuples(self):
        for p in TREES:
            for balls in some_lists(p):
                one, tree = balls[0], some_tree(p, balls)
                for call in (reach, middle, least_total, hang_together):
                    same(self, call(p, tuple(balls)), call(p, balls))
                for call in (far, total):
                    same(self, call(p, tuple(balls), one), call(p, balls, one))
                for call in (leaves, peeled):
                    same(self, call(p, tuple(tree)), call(p, tree))
                same(self, pieces(p, tuple(tree), one), pieces(p, tree, one))
                same(self, cut(p, tuple(tree), (ROOT, EVEN)), cut(p, tree, (ROOT, EVEN)))

    def test_named_middles(self):
        same(self, middle(2, [THREE]), ("ball", THREE))
        same(self, middle(2, [THREE, THREE]), ("ball", THREE))
        same(self, middle(2, [ODD, ROOT]), ("pair", ROOT, ODD))
        same(self, middle(2, [ROOT, ODD]), ("pair", ROOT, ODD))
        same(self, middle(2, [EVEN, THREE]), ("pair", ROOT, ODD))
        same(self, middle(2, [(40, (0, 1)), (-40, (0, 1))]), ("ball", ROOT))

    def test_total(self):
        for p, slow in TREES.items():
            for balls in some_lists(p):
                for one in slow.balls[::3]:
                    same(self, unchanged(self, total, p, balls, one), sum(slow.steps(one, other) for other in balls))

    def test_least_total(self):
        for p, slow in TREES.items():
            for balls in some_lists(p):
                sums = {one: sum(slow.steps(one, other) for other in balls) for one in slow.balls}
                least = min(sums.values())
                expected = (least, sorted([one for one in sums if sums[one] == least], key=key))
                same(self, unchanged(self, least_total, p, balls), expected)
                same(self, least_total(p, tuple(balls)), expected)

    def test_named_least_totals(self):
        same(self, least_total(2, [THREE]), (0, [THREE]))
        same(self, least_total(2, [THREE, THREE]), (0, [THREE]))
        same(self, least_total(2, [THREE, EVEN]), (3, [ROOT, EVEN, ODD, THREE]))
        same(self, least_total(2, [THREE, EVEN, EVEN]), (3, [EVEN]))
        same(self, least_total(2, [THREE, ROOT]), (2, [ROOT, ODD, THREE]))
        same(self, least_total(2, [THREE, ONE, EVEN, ROOT]), (5, [ROOT, ODD]))

    def test_sixty_balls(self):
        for p in (2, 97):
            low, high = ball(p, 40, (1, p ** 40)), ball(p, 40, (5, 7))
            least, balls = least_total(p, [low, high] * 30)
            self.assertEqual((least, len(balls)), (30 * 160, 161))
            same(self, least_total(p, [low] * 31 + [high] * 29), (29 * 160, [low]))
            same(self, middle(p, [low] * 59 + [high]), ("ball", (-40, (0, 1))))
            self.assertEqual(reach(p, [low] * 59 + [high]), 160)

    def test_no_too_many(self):
        one, other = (300, (0, 1)), (-300, (0, 1))
        self.assertEqual((reach(2, [one, other]), middle(2, [one, other])), (600, ("ball", ROOT)))
        self.assertEqual(len(least_total(2, [one, other])[1]), 601)

    def test_new_lists(self):
        for call in (lambda: least_total(2, [THREE, EVEN])[1], lambda: leaves(2, [ROOT, ODD]), lambda: peeled(2, [ROOT, ODD]),
                     lambda: pieces(2, [ROOT, ODD], ROOT), lambda: pieces(2, [ROOT, ODD], ROOT)[0],
                     lambda: cut(2, [ROOT, ODD], (ROOT, ODD))):
            before = list(call())
            call().clear()
            self.assertEqual(call(), before)


def some_tree(p, balls):
    """The least tree of a list, in no order."""
    found = TREES[p].hull(balls)
    random.Random(len(found)).shuffle(found)
    return found


def some_trees(p):
    return [some_tree(p, balls) for balls in some_lists(p)]


class Trees(unittest.TestCase):
    def test_hang_together(self):
        for p, slow in TREES.items():
            for balls in some_lists(p) + some_trees(p):
                expected = set(slow.hull(balls)) == set(balls)
                self.assertIs(unchanged(self, hang_together, p, balls), expected)
                self.assertIs(hang_together(p, tuple(balls) + tuple(balls[:2])), expected)
            for balls in some_trees(p):
                for k in range(len(balls)):
                    left = balls[:k] + balls[k + 1:]
                    self.assertIs(hang_together(p, left), set(slow.hull(left)) == set(left))

    def test_none_and_twice(self):
        self.assertIs(hang_together(2, []), True)
        self.assertIs(hang_together(2, ()), True)
        self.assertIs(hang_together(2, [ROOT, ROOT]), True)
        self.assertIs(hang_together(2, [EVEN, ODD, EVEN]), False)
        self.assertIs(hang_together(2, [EVEN, ROOT, ODD, EVEN, ROOT]), True)
        self.assertIs(hang_together(2, [ROOT, THREE]), False)

    def test_leaves_and_peeled(self):
        for p in TREES:
            for tree in some_trees(p):
                outer = [one for one in tree if len([other for other in around(p, one) if other in tree]) <= 1]
                inner = [one for one in tree if one not in outer] if len(tree) > 2 else tree
                same(self, unchanged(self, leaves, p, tree), sorted(outer, key=key))
                same(self, unchanged(self, peeled, p, tree), sorted(inner, key=key))
                same(self, peeled(p, tuple(tree)), sorted(inner, key=key))

    def test_small_trees(self):
        same(self, leaves(2, [THREE]), [THREE])
        same(self, peeled(2, [THREE]), [THREE])
        same(self, pieces(2, [THREE], THREE), [])
        same(self, leaves(2, [ODD, ROOT]), [ROOT, ODD])
        same(self, peeled(2, [ODD, ROOT]), [ROOT, ODD])
        same(self, pieces(2, [ODD, ROOT], ROOT), [[ODD]])
        same(self, pieces(2, [ODD, ROOT], ODD), [[ROOT]])
        same(self, cut(2, [ODD, ROOT], (ROOT, ODD)), [ODD])
        same(self, cut(2, [ODD], (ODD, ROOT)), [])
        same(self, leaves(2, [EVEN, ODD, ROOT]), [EVEN, ODD])
        same(self, peeled(2, [EVEN, ODD, ROOT]), [ROOT])

    def test_peeled_comes_to_the_middle(self):
        for p in TREES:
            for tree in some_trees(p):
                left = tree
                for _ in range(len(tree)):
                    left = peeled(p, left)
                same(self, tuple(left), middle(p, tree)[1:])

    def test_pieces(self):
        for p, slow in TREES.items():
            for tree in some_trees(p):
                for one in tree:
                    expected = []
                    for first in sorted(set(around(p, one)) & set(tree), key=key):
                        piece = [other for other in tree if slow.steps(other, first) < slow.steps(other, one)]
                        expected.append(sorted(piece, key=key))
                    same(self, unchanged(self, pieces, p, tree, one), expected)

    def test_cut(self):
        for p, slow in TREES.items():
            for tree in some_trees(p)[::3]:
                for one in slow.balls[:12]:
                    for other in slow.next[one]:
                        expected = [ball for ball in tree if slow.steps(ball, other) < slow.steps(ball, one)]
                        same(self, unchanged(self, cut, p, tree, (one, other)), sorted(expected, key=key))

    def test_great_trees(self):
        tree = least_tree(97, [(60, (0, 1)), (1, (96, 1))])
        same(self, leaves(97, tree), [(1, (96, 1)), (60, (0, 1))])
        self.assertEqual(len(peeled(97, tree)), 60)
        self.assertEqual([len(piece) for piece in pieces(97, tree, ROOT)], [60, 1])


if __name__ == "__main__":
    unittest.main()
