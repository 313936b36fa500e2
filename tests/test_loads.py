import random
import unittest

from ballmoves.balls import neighbours
from ballmoves.counts import balls_at, meets
from ballmoves.errors import TooMany
from ballmoves.leads import led
from ballmoves.loads import gathered, is_load, joined_loads, led_load, load, rule, spread, walks, weight
from ballmoves.roads import road
from brute import ROOT, key, tree
from some_moves import moves_at, some_balls
from values import NEVER, broken, same, unchanged

EVEN, ODD = (1, (0, 1)), (1, (1, 1))
ONE = ((ROOT, 1),)
GREAT = 10 ** 29 + 7


def as_load(weights):
    """The load of a dict of balls and weights."""
    return tuple((ball, weights[ball]) for ball in sorted(weights, key=key) if weights[ball])


def slow_spread(p, told, n):
    weights = {}
    for ball, number in told:
        for other, way in tree(p, ball, n).items():
            if way == n:
                weights[other] = weights.get(other, 0) + number
    return as_load(weights)


def some_loads(p):
    """Loads of one ball to sixty, near and far, and with great weights."""
    chance = random.Random(p)
    found = [(), ONE, ((ROOT, -GREAT),), as_load({EVEN: 1, ODD: -1}), as_load({ball: k + 1 for k, ball in enumerate(some_balls(p))}),
             as_load({ball: (-1) ** k * GREAT for k, ball in enumerate(some_balls(p))})]
    near = sorted(tree(p, some_balls(p)[3], 4 if p < 5 else 1), key=key)
    for many in (2, 3, 5, 8, 20, 60):
        found.append(as_load({ball: chance.choice((1, 1, 2, -3, GREAT)) for ball in chance.sample(near, min(many, len(near)))}))
    return found


class IsLoad(unittest.TestCase):
    def test_loads(self):
        for p in (2, 3, 97):
            for told in some_loads(p):
                same(self, unchanged(self, is_load, p, told), True)
        same(self, is_load(2, ((ROOT, 1), ((0, (1, 2)), 1), ((0, (3, 4)), 10 ** 39), (EVEN, -1))), True)

    def test_no_loads(self):
        wrong = [((ROOT, 0),), ((ROOT, True),), ((ROOT, False),), ((ROOT, None),), ((ROOT, "1"),), ((ROOT,),), ((ROOT, 1, 1),), (ROOT, 1),
                 [(ROOT, 1)], ([ROOT, 1],), ((ROOT, 1), (ROOT, 1)), ((EVEN, 1), (ROOT, 1)), (((0, (1, 2)), 1), (ROOT, 1)),
                 (((0, (3, 4)), 1), ((0, (1, 2)), 1)), ((ROOT, 1), (EVEN, 1), (EVEN, 2)), ((ROOT, 1), (ODD, 1), (EVEN, 1)),
                 ((EVEN, 1), ((0, (1, 2)), 1)), (((0, (1, 3)), 1),), (((0, (2, 2)), 1),), (((True, (0, 1)), 1),), (((0, (0, True)), 1),), ((ROOT, 1), None), ((1, ROOT),),
                 {ROOT: 1}, (((0, (1, 1)), 1),), (((1, (3, 2)), 1), (EVEN, 1)), ((ROOT, (1, 1)),), ((ROOT, [1]),)]
        values = wrong + [value for value in NEVER if value != ()] + [(row,) for row in broken((ROOT, 1))]
        for value in values:
            same(self, unchanged(self, is_load, 2, value), False)
        same(self, is_load(2, ()), True)
        same(self, is_load(3, (((0, (1, 2)), 1),)), False)


class Made(unittest.TestCase):
    def test_load(self):
        for p in (2, 3):
            balls = some_balls(p)
            rows = [(balls[k % 4], number) for k, number in enumerate([1, 2, -3, GREAT, -1, 5, 0, -GREAT, 7, -7])]
            weights = {}
            for ball, number in rows:
                weights[ball] = weights.get(ball, 0) + number
            for some in (rows, rows[::-1], tuple(rows)):
                found = unchanged(self, load, p, some)
                same(self, found, as_load(weights))
                self.assertTrue(is_load(p, found))
        same(self, [load(2, []), load(2, ()), load(2, [(ROOT, 0)]), load(2, [(ROOT, 3), (ROOT, -3)])], [(), (), (), ()])
        for p in (2, 97):
            for told in some_loads(p):
                same(self, load(p, told), told)

    def test_joined(self):
        for p in (2, 3):
            loads = some_loads(p)
            for one, other in zip(loads, loads[1:] + loads[:1]):
                for n in (0, 1, -1, 3, GREAT):
                    weights = dict(one)
                    for ball, number in other:
                        weights[ball] = weights.get(ball, 0) + n * number
                    same(self, unchanged(self, joined_loads, p, one, n, other), as_load(weights))
                same(self, joined_loads(p, one, -1, one), ())

    def test_weight(self):
        for told in some_loads(2):
            weights = dict(told)
            for ball in list(weights) + [ROOT, EVEN, (9, (5, 1))]:
                same(self, unchanged(self, weight, told, ball), weights.get(ball, 0))

    def test_led(self):
        for p in (2, 3, 97):
            for told in some_loads(p):
                for m in moves_at(p)[::4]:
                    found = unchanged(self, led_load, p, m, told)
                    same(self, found, as_load({led(p, m, ball): number for ball, number in told}))


class Spread(unittest.TestCase):
    def test_by_neighbours(self):
        for p, most in ((2, 5), (3, 3), (97, 1)):
            for told in some_loads(p):
                for n in range(most + 1):
                    if len(told) * balls_at(p, n) <= 2000:
                        found = unchanged(self, spread, p, told, n)
                        same(self, found, slow_spread(p, told, n))
                        self.assertTrue(is_load(p, found))

    def test_led_alike(self):
        for p in (2, 3):
            for told in some_loads(p)[:8]:
                for m in moves_at(p)[::6]:
                    same(self, spread(p, led_load(p, m, told), 2), led_load(p, m, spread(p, told, 2)))

    def test_too_many(self):
        balls = sorted(tree(2, ROOT, 5), key=key)
        loads = {many: tuple((ball, 1) for ball in balls[:many]) for many in (1, 2, 41, 42, 60)}
        # 41 times 48 balls are 1,968, 42 times 48 are 2,016.
        self.assertEqual(len(spread(2, loads[41], 5)) > 0, True)
        self.assertEqual(len(spread(2, loads[1], 10)), 1536)
        for many, n in [(42, 5), (2, 10), (1, 11), (60, 40), (1, 40)]:
            with self.assertRaises(TooMany):
                unchanged(self, spread, 2, loads[many], n)
        with self.assertRaises(TooMany):
            spread(97, ONE, 2)
        self.assertEqual(len(spread(97, ONE, 1)), 98)
        same(self, spread(2, (), 40), ())
        whole = load(2, [(ball, 1) for ball in tree(2, ROOT, 9)])
        same(self, spread(2, whole, 0), whole)
        with self.assertRaises(TooMany):
            spread(2, spread(2, ONE, 10) + (((20, (0, 1)), 1),) * 465, 0)
        # At the bound: 500 balls, each with four neighbours.
        some = load(3, [(ball, 1) for ball in sorted(tree(3, ROOT, 6), key=key)[:501]])
        self.assertTrue(spread(3, some[:500], 1))
        with self.assertRaises(TooMany):
            spread(3, some, 1)


class Rule(unittest.TestCase):
    def test_by_counting(self):
        for p in (2, 3, 97):
            for n in range(6):
                for k in range(6):
                    # Of two balls j steps apart, both on the road about (0, (0, 1)).
                    balls = [(j, (0, 1)) for j in range(n + k + 3)]
                    expected = [(j, meets(p, ROOT, ball, n, k)) for j, ball in enumerate(balls) if meets(p, ROOT, ball, n, k)]
                    same(self, rule(p, n, k), expected)

    def test_spread_twice(self):
        for p, most in ((2, 4), (3, 2)):
            for n in range(most + 1):
                for k in range(most + 1):
                    for told in (ONE, ((EVEN, -3), (ODD, GREAT))):
                        twice = spread(p, spread(p, told, n), k)
                        summed = ()
                        for j, c in rule(p, n, k):
                            self.assertGreater(c, 0)
                            summed = joined_loads(p, summed, c, spread(p, told, j))
                        same(self, twice, summed)

    def test_great_numbers(self):
        for p in (2, 97):
            for n, k in ((40, 40), (40, 7), (0, 40), (1, 39)):
                found = rule(p, n, k)
                self.assertEqual(sum(c * balls_at(p, j) for j, c in found), balls_at(p, n) * balls_at(p, k))
                same(self, found, rule(p, k, n))
                self.assertEqual([j for j, c in found], list(range(abs(n - k), n + k + 1, 2)))
        same(self, [rule(2, 0, 0), rule(5, 0, 3), rule(2, 3, 0)], [[(0, 1)], [(3, 1)], [(3, 1)]])
        rule(2, 1, 1).append(0)
        same(self, rule(2, 1, 1), [(0, 3), (2, 1)])


class Walks(unittest.TestCase):
    def test_by_counting(self):
        for p, most in ((2, 7), (3, 5)):
            counts = {ROOT: 1}
            for n in range(most + 1):
                for way in range(most + 2):
                    same(self, walks(p, way, n), counts.get((way, (0, 1)), 0))
                counts, before = {}, counts
                for ball, many in before.items():
                    for other in neighbours(p, ball):
                        counts[other] = counts.get(other, 0) + many

    def test_sums(self):
        for p in (2, 97):
            for n in (0, 1, 20, 200):
                self.assertEqual(sum(walks(p, way, n) * balls_at(p, way) for way in range(n + 1)), (p + 1) ** n)
        same(self, [walks(2, 200, 200), walks(2, 199, 200), walks(97, 200, 199), walks(5, 0, 0), walks(5, 1, 0)], [1, 0, 0, 1, 0])
        same(self, walks(97, 198, 200), 97 * 198 + 1 + 97)


class Gathered(unittest.TestCase):
    def test_there_and_back(self):
        for p in (2, 3, 5, 97):
            for told in some_loads(p):
                if len(told) * (p + 1) <= 2000:
                    same(self, unchanged(self, gathered, p, spread(p, told, 1)), told)

    def test_again_and_again(self):
        for p in (2, 3):
            for told in some_loads(p)[:7]:
                twice = spread(p, spread(p, told, 1), 1)
                same(self, gathered(p, twice), spread(p, told, 1))
                same(self, gathered(p, gathered(p, twice)), told)

    def test_a_weight_more(self):
        for p in (2, 3):
            for told in some_loads(p):
                there = spread(p, told, 1)
                balls = [ball for ball, _ in there][:9] + some_balls(p)[:4]
                for ball in balls:
                    for number in (1, -GREAT):
                        # Of no load comes a single ball: so of none this one, too.
                        same(self, unchanged(self, gathered, p, joined_loads(p, there, number, ((ball, 1),))), None)

    def test_all_small_loads(self):
        """Loads with few weights near one ball: gathered if and only if they are spread ones."""
        near = sorted(tree(2, ROOT, 1), key=key)
        spreads = {}
        for code in range(3 ** 4):
            told = as_load({ball: code // 3 ** k % 3 - 1 for k, ball in enumerate(near)})
            spreads[spread(2, told, 1)] = told
        wide = sorted(tree(2, ROOT, 2), key=key)
        chance = random.Random(5)
        for some in list(spreads) + [as_load({ball: chance.choice((0, 0, 1, -1)) for ball in wide}) for _ in range(300)]:
            found = gathered(2, some)
            if some in spreads:
                same(self, found, spreads[some])
            elif found is not None:
                same(self, spread(2, found, 1), some)

    def test_named(self):
        same(self, gathered(2, ()), ())
        same(self, gathered(2, ONE), None)
        same(self, gathered(2, ((EVEN, 1), (ODD, 1))), None)
        same(self, gathered(2, (((-1, (0, 1)), 5), (EVEN, 5), (ODD, 5))), ((ROOT, 5),))
        same(self, gathered(2, (((-1, (0, 1)), 5), (EVEN, 5), (ODD, 4))), None)
        same(self, gathered(2, (((-1, (0, 1)), 5), (ROOT, 1), (EVEN, 5), (ODD, 5))), None)
        same(self, gathered(2, tuple((ball, 1) for ball in sorted(road(2, (-3, (0, 1)), (4, (5, 1))), key=key))), None)
        for p in (2, 97):
            far = as_load({(-40, (0, 1)): GREAT, (40, (1, 1)): -GREAT, (40, (0, 1)): 1})
            same(self, gathered(p, spread(p, far, 1)), far)
            same(self, gathered(p, far), None)

    def test_no_bound(self):
        told = load(2, [(ball, 1) for ball in tree(2, ROOT, 8)])
        self.assertEqual(len(told), 766)
        with self.assertRaises(TooMany):
            spread(2, told, 1)
        whole = joined_loads(2, spread(2, told[:383], 1), 1, spread(2, told[383:], 1))
        same(self, gathered(2, whole), told)


if __name__ == "__main__":
    unittest.main()
