import unittest
from fractions import Fraction
from itertools import combinations, permutations, product

from ballmoves.balls import ball, has, within
from ballmoves.errors import TooMany
from ballmoves.roads import (are_apart, fork, is_side, least_tree, lies_in, on_road, on_side, road, steps, towards)
from brute import ROOT, Tree, around, holds, key, make, told
from values import NEVER, same, unchanged

TREES = {2: Tree(2, 4), 3: Tree(3, 3)}
ONE, THREE, EVEN, ODD = (2, (1, 1)), (2, (3, 1)), (1, (0, 1)), (1, (1, 1))


def some_balls(p):
    return TREES[p].balls[::2] + TREES[p].balls[-1:]


class Roads(unittest.TestCase):
    def test_all(self):
        for p, slow in TREES.items():
            for one in slow.balls:
                for other in some_balls(p):
                    found = slow.road(one, other)
                    same(self, road(p, one, other), found)
                    same(self, steps(p, one, other), len(found) - 1)
                    for k in range(len(found)):
                        same(self, on_road(p, one, other, k), found[k])

    def test_named_cases(self):
        same(self, road(2, ODD, ODD), (ODD,))
        self.assertEqual((steps(2, ODD, ODD), on_road(2, ODD, ODD, 0)), (0, ODD))
        same(self, road(2, THREE, ROOT), (THREE, ODD, ROOT))
        same(self, road(2, ROOT, THREE), (ROOT, ODD, THREE))
        same(self, road(2, THREE, EVEN), (THREE, ODD, ROOT, EVEN))

    def test_long_roads(self):
        for p in (2, 97):
            one, other = ball(p, 40, (1, 3 if p == 2 else 2)), ball(p, 40, (-1, p ** 40))
            found = road(p, one, other)
            self.assertEqual((len(found), steps(p, one, other), steps(p, other, one)), (161, 160, 160))
            self.assertEqual((found[0], found[80], found[-1]), (one, (-40, (0, 1)), other))
            for k in range(160):
                self.assertIn(found[k + 1], around(p, found[k]))
            self.assertEqual(len(set(found)), 161)
            self.assertEqual([on_road(p, one, other, k) for k in (0, 1, 79, 80, 81, 160)],
                             [found[k] for k in (0, 1, 79, 80, 81, 160)])


class Forks(unittest.TestCase):
    def test_in_whatever_order(self):
        for p, slow in TREES.items():
            for one, other, third in combinations(some_balls(p)[::2], 3):
                roads = [slow.road(one, other), slow.road(other, third), slow.road(third, one)]
                shared = set(roads[0]) & set(roads[1]) & set(roads[2])
                self.assertEqual(len(shared), 1)
                for order in permutations((one, other, third)):
                    same(self, fork(p, *order), list(shared)[0])

    def test_equal_ones_and_ones_on_the_road(self):
        for one, other in permutations((ROOT, ONE, THREE, EVEN, ODD), 2):
            for order in permutations((one, one, other)):
                same(self, fork(2, *order), one)
        same(self, fork(2, ONE, ONE, ONE), ONE)
        for order in permutations((ONE, ODD, ROOT)):
            same(self, fork(2, *order), ODD)


class Towards(unittest.TestCase):
    def slow(self, p, one, point, k):
        for _ in range(k):
            x = Fraction(*point) if point != (1, 0) else None
            if x is not None and holds(p, one, x):
                one = make(p, one[0] + 1, x)
            else:
                one = around(p, one)[0]
        return one

    def test_step_by_step(self):
        points = [(1, 0), (0, 1), (1, 1), (-1, 1), (1, 3), (5, 6), (-7, 4), (10 ** 20 + 1, 27), (1, 97)]
        for p in (2, 3, 97):
            for one in (ROOT, (2, (1, 1)), (-2, (0, 1)), (1, (p + 1, p)), (3, (1, p ** 2))):
                for point in points:
                    for k in list(range(8)) + [13]:
                        same(self, towards(p, one, point, k), self.slow(p, one, point, k))

    def test_eighty_steps(self):
        for p in (2, 97):
            for one in ((40, (0, 1)), (-40, (0, 1)), (5, (1, p ** 60))):
                for x in ((5, 7), (1, p ** 50), (0, 1)):
                    found = [towards(p, one, x, k) for k in range(81)]
                    self.assertEqual(found[0], one)
                    self.assertTrue(all(found[k + 1] in around(p, found[k]) for k in range(80)))
                    self.assertEqual(len(set(found)), 81)
                    self.assertEqual(found[80], self.slow(p, one, x, 80))
                self.assertEqual(towards(p, one, (1, 0), 80), make(p, one[0] - 80, Fraction(*one[1])))

    def test_in_the_ball_near_and_apart(self):
        self.assertTrue(has(2, THREE, (7, 1)))
        same(self, towards(2, THREE, (7, 1), 2), (4, (7, 1)))
        same(self, towards(2, THREE, (1, 1), 2), ONE)
        same(self, towards(2, THREE, (1, 1), 3), (3, (1, 1)))
        same(self, towards(2, THREE, (0, 1), 2), ROOT)
        same(self, towards(2, THREE, (0, 1), 0), THREE)
        same(self, towards(2, THREE, (1, 0), 0), THREE)


def some_sides(p):
    near = [one for one in TREES[p].balls if TREES[p].steps(ROOT, one) <= 2]
    return [(one, other) for one in near for other in around(p, one) if other in near]


class Sides(unittest.TestCase):
    def test_is_side(self):
        for p in TREES:
            near = TREES[p].balls[:18]
            for one, other in product(near, near):
                self.assertIs(is_side(p, (one, other)), other in around(p, one))

    def test_is_side_of_any_value(self):
        for value in NEVER + [0, (ROOT,), (ROOT, ROOT), (ROOT, ODD, ONE), [ROOT, ODD], (list(ROOT), ODD), (ROOT, [1, (1, 1)]),
                              (ROOT, (1, [1, 1])), (ROOT, (True, (1, 1))), (ROOT, (1, (True, 1))), (False, ODD),
                              ((False, (0, 1)), ODD), (ROOT, THREE), (THREE, ROOT), (EVEN, ODD), (ROOT, (1, (2, 1))),
                              (ROOT, (1, (3, 1))), (ROOT, None), ((2, (1, 1)), (3, (3, 1))), ((3, (3, 1)), (2, (1, 1)))]:
            self.assertIs(unchanged(self, is_side, 2, value), False, value)
        self.assertIs(is_side(2, ((300, (0, 1)), (301, (2 ** 300, 1)))), True)
        self.assertIs(is_side(2, ((301, (2 ** 300, 1)), (300, (0, 1)))), True)

    def test_on_side(self):
        for p, slow in TREES.items():
            for side in some_sides(p):
                for one in slow.balls:
                    nearer = slow.steps(one, side[1]) < slow.steps(one, side[0])
                    self.assertIs(on_side(p, side, one), nearer)
                    self.assertIs(on_side(p, (side[1], side[0]), one), not nearer)

    def test_are_apart_and_lies_in(self):
        for p, slow in TREES.items():
            on = {side: {one for one in slow.balls if slow.steps(one, side[1]) < slow.steps(one, side[0])}
                  for side in some_sides(p)}
            for one, other in product(on, on):
                self.assertIs(are_apart(p, one, other), not on[one] & on[other], (one, other))
                self.assertIs(lies_in(p, one, other), on[one] <= on[other], (one, other))

    def test_named_cases(self):
        side, turned = (ROOT, ODD), (ODD, ROOT)
        self.assertEqual([are_apart(2, side, side), are_apart(2, side, turned)], [False, True])
        self.assertEqual([lies_in(2, side, side), lies_in(2, side, turned)], [True, False])
        inner, beside = (ODD, THREE), (ODD, ONE)
        self.assertEqual([lies_in(2, inner, side), lies_in(2, side, inner), are_apart(2, inner, side)], [True, False, False])
        self.assertEqual([are_apart(2, inner, beside), lies_in(2, inner, (ONE, ODD))], [True, True])
        distant, other = ((39, (1, 1)), (40, (1, 1))), ((-39, (0, 1)), (-40, (0, 1)))
        self.assertEqual([are_apart(2, distant, other), lies_in(2, distant, other[::-1])], [True, True])
        self.assertEqual([are_apart(2, distant[::-1], other), are_apart(2, distant[::-1], other[::-1])], [False, False])


def comb(many):
    """A ball and those within it, of which there are so many in all, all near to one another."""
    balls = [ROOT]
    while len(balls) < many:
        balls += [other for one in balls for other in within(97, one) if other not in balls]
    return balls[:many]


class LeastTrees(unittest.TestCase):
    def test_all(self):
        for p, slow in TREES.items():
            for some in combinations(some_balls(p)[::3], 3):
                same(self, unchanged(self, least_tree, p, list(some)), slow.hull(some))
                same(self, least_tree(p, tuple(some)), slow.hull(some))
            many = TREES[p].balls[3::5]
            same(self, least_tree(p, many), slow.hull(many))

    def test_one_ball_and_equal_ones(self):
        same(self, least_tree(2, [THREE]), [THREE])
        same(self, least_tree(2, [THREE, THREE]), [THREE])
        same(self, least_tree(2, [THREE, ODD, THREE, ODD]), [ODD, THREE])
        same(self, least_tree(2, [ROOT, THREE, ROOT, THREE]), [ROOT, ODD, THREE])

    def test_new_lists(self):
        balls = [THREE, ONE]
        first = least_tree(2, balls)
        first.clear()
        self.assertEqual(len(least_tree(2, balls)), 3)
        single = [THREE]
        self.assertIsNot(least_tree(2, single), single)

    def test_four_hundred_balls(self):
        one = (200, (0, 1))
        self.assertEqual(len(least_tree(2, [one, (-199, (0, 1))])), 400)
        with self.assertRaises(TooMany):
            least_tree(2, [one, (-200, (0, 1))])
        self.assertEqual(len(least_tree(2, [(-199, (0, 1)), one, (100, (0, 1))])), 400)
        with self.assertRaises(TooMany):
            least_tree(2, [(-199, (0, 1)), one, (101, (2 ** 100, 1))])
        self.assertEqual(len(least_tree(97, comb(400))), 400)
        with self.assertRaises(TooMany):
            least_tree(97, comb(401))
        with self.assertRaises(TooMany):
            least_tree(2, [(100000, (0, 1)), (0, (0, 1))])

    def test_ascending(self):
        found = least_tree(3, [(2, (5, 1)), (0, (1, 9)), (1, (2, 1)), (-1, (1, 9)), (0, (1, 3))])
        self.assertEqual(found, sorted(found, key=key))
        self.assertEqual(len(set(found)), len(found))


if __name__ == "__main__":
    unittest.main()
