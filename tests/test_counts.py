import unittest

from ballmoves.balls import neighbours
from ballmoves.counts import balls_at, from_some, kept_at, kept_within, meets
from ballmoves.kept import centre
from ballmoves.kinds import kind
from ballmoves.leads import led
from ballmoves.moves import after, back, power
from brute import ROOT, tree
from some_moves import moves_at, some_balls
from test_moves import STILL
from values import same, unchanged

UP, OVER, TWICE = (1, 1, 0, 1), (0, 1, 1, 0), (2, 0, 0, 1)
EVEN, ODD = (1, (0, 1)), (1, (1, 1))
# The steps so far out that all balls can be looked through.
FAR_OUT = {2: 7, 3: 4, 5: 3}


def slow_counts(p, m, around):
    """How many balls of each number of steps a move keeps, of balls with their steps."""
    counts = [0] * (1 + max(around.values()))
    for ball, way in around.items():
        counts[way] += led(p, m, ball) == ball
    return counts


def depth_moves(p):
    """Moves with centres of each kind and several depths, and others."""
    deep = [(1, 0, 0, 1 + p ** 3), (1, p ** 2, -p ** 2, 1), (1, p ** 3, 0, 1), (1, p, p ** 2, 1), (1 + p ** 2, p, p ** 3, 1)]
    return deep + [power(m, p) for m in moves_at(p)[::7]] + [(1, 2, 2, 1), (1, 4, -4, 1), (3, 4, -4, 3), (1, 1, -1, 1)]


class BallsAt(unittest.TestCase):
    def test_counted(self):
        for p, most in FAR_OUT.items():
            for ball in some_balls(p)[::3]:
                around = tree(p, ball, most)
                for n in range(most + 1):
                    same(self, balls_at(p, n), list(around.values()).count(n))

    def test_sums(self):
        for p in (2, 3, 97):
            for n in (1, 2, 50, 200):
                # All balls to n steps: each but the first one is about the p ones behind it.
                within = sum(balls_at(p, k) for k in range(n + 1))
                self.assertEqual(within, 1 + (p + 1) * (p ** n - 1) // (p - 1))
        same(self, [balls_at(2, 0), balls_at(97, 0), balls_at(97, 1), balls_at(2, 200)], [1, 1, 98, 3 * 2 ** 199])


class Meets(unittest.TestCase):
    def test_counted(self):
        for p, most in FAR_OUT.items():
            balls = some_balls(p)[:6]
            lots = [tree(p, ball, most) for ball in balls]
            for one, near in zip(balls, lots):
                for other, around in zip(balls, lots):
                    for n in range(most + 1):
                        for k in range(most + 1):
                            expected = len([ball for ball in near if near[ball] == n and around.get(ball) == k])
                            same(self, unchanged(self, meets, p, one, other, n, k), expected)

    def test_sums(self):
        for p in (2, 3, 97):
            for one, other in [(ROOT, ROOT), (ROOT, EVEN), ((7, (0, 1)), (-9, (0, 1))), ((60, (1, 1)), (60, (0, 1)))]:
                for n in (0, 1, 5, 16, 130, 200):
                    # Each ball n steps from one is so many steps from the other one.
                    self.assertEqual(sum(meets(p, one, other, n, k) for k in range(n + 121)), balls_at(p, n))
                    for k in (0, 7, 100, 200):
                        same(self, meets(p, one, other, n, k), meets(p, other, one, k, n))
        same(self, [meets(2, ROOT, ROOT, 200, 200), meets(2, ROOT, ROOT, 200, 199), meets(2, ROOT, EVEN, 200, 200)], [3 * 2 ** 199, 0, 0])

    def test_named(self):
        same(self, [meets(2, EVEN, ODD, 1, 1), meets(2, EVEN, ODD, 0, 2), meets(2, EVEN, ODD, 0, 0), meets(3, EVEN, ODD, 2, 2)], [1, 1, 0, 2])
        same(self, [meets(2, EVEN, ODD, 1, 3), meets(2, EVEN, ODD, 3, 3), meets(2, EVEN, EVEN, 0, 0)], [2, 2, 1])


class Kept(unittest.TestCase):
    def test_counted(self):
        seen = set()
        for p, most in FAR_OUT.items():
            moves = moves_at(p)[::3] + depth_moves(p)
            for ball in some_balls(p)[:6:2] + some_balls(p)[-1:]:
                around = tree(p, ball, most)
                for m in moves:
                    expected = slow_counts(p, m, around)
                    same(self, [unchanged(self, kept_at, p, m, ball, n) for n in range(most + 1)], expected)
                    same(self, [kept_within(p, m, ball, n) for n in range(most + 1)], [sum(expected[:n + 1]) for n in range(most + 1)])
                    what = kind(p, m)[0]
                    seen.add((what, what == "keeps" and m != STILL and centre(p, m)[0], expected[0]))
        for name in ("ball", "pair", "line", "end"):
            self.assertLessEqual({("keeps", name, 0), ("keeps", name, 1)}, seen)
        self.assertLessEqual({("keeps", False, 1), ("stretches", False, 0), ("exchanges", False, 0)}, seen)

    def test_great_numbers(self):
        for p in (2, 3, 97):
            same(self, kept_at(p, STILL, ROOT, 200), balls_at(p, 200))
            same(self, kept_within(p, STILL, ROOT, 200), sum(balls_at(p, n) for n in range(201)))
            same(self, kept_at(p, (p, 0, 0, 1), ROOT, 200), 0)
            same(self, kept_within(p, (0, p, 1, 0), ROOT, 200), 0)
            same(self, kept_at(p, (1, 0, 0, 1 + p ** 2), ROOT, 200), 2 * p ** 2)
            same(self, kept_at(p, UP, ROOT, 200), p ** 100)
            deep = power(UP, p ** 90)
            same(self, kept_at(p, deep, ROOT, 90), balls_at(p, 90))
            same(self, kept_at(p, deep, ROOT, 91), p ** 90)
            same(self, kept_at(p, deep, (-300, (0, 1)), 200), balls_at(p, 200))
            same(self, kept_at(p, deep, (290, (0, 1)), 199), 0)
            same(self, kept_at(p, deep, (290, (0, 1)), 200), 1)

    def test_alike_if_led(self):
        for p in (2, 3):
            for t in ((1, 2, p, p + 1), (0, p, 1, 7)):
                for m in depth_moves(p):
                    for ball in some_balls(p)[:4]:
                        there, told = led(p, t, ball), after(t, after(m, back(t)))
                        same(self, kept_within(p, told, there, 40), kept_within(p, m, ball, 40))
                        same(self, from_some(p, told, there), from_some(p, m, ball))


class FromSome(unittest.TestCase):
    def form(self, p, told):
        """The number for each n by what is told, and the least k that may be told."""
        if told[0] == "none":
            return (lambda n: 0), 0
        if told[0] == "many":
            self.assertNotEqual(told[2], 0)
            return (lambda n: told[2]), 0
        return (lambda n: p ** ((n + told[2]) // 2)), max(0, -told[2])

    def test_against_counts(self):
        seen = set()
        for p in (2, 3, 5, 97):
            for m in moves_at(p)[::2] + depth_moves(p):
                for ball in some_balls(p):
                    told = unchanged(self, from_some, p, m, ball)
                    seen.add(told[0])
                    if m == STILL:
                        same(self, told, ("all",))
                        continue
                    expected, least = self.form(p, told)
                    k = told[1]
                    self.assertGreaterEqual(k, least)
                    for n in list(range(k, k + 12)) + [199, 200]:
                        self.assertEqual(kept_at(p, m, ball, n), expected(n), (p, m, ball, told))
                    if k > least:
                        self.assertNotEqual(kept_at(p, m, ball, k - 1), expected(k - 1), (p, m, ball, told))
        self.assertEqual(seen, {"all", "none", "many", "half"})

    def test_all_numbers(self):
        for p, m, ball in [(2, UP, ODD), (2, UP, (9, (3, 1))), (2, (1, 8, 0, 1), (-2, (0, 1))), (3, (1, 0, 0, 10), (4, (5, 1))),
                           (2, OVER, (5, (0, 1))), (3, (0, 1, -1, 0), (2, (1, 1))), (2, (0, 1, -1, 0), EVEN), (3, UP, (0, (1, 3)))]:
            told = from_some(p, m, ball)
            expected, _ = self.form(p, told)
            for n in range(told[1], 201):
                self.assertEqual(kept_at(p, m, ball, n), expected(n))

    def test_named(self):
        same(self, from_some(2, STILL, (5, (3, 1))), ("all",))
        same(self, [from_some(2, TWICE, EVEN), from_some(2, (0, 2, 1, 0), EVEN), from_some(3, (0, 1, -1, 0), (1, (0, 1)))],
             [("none", 0), ("none", 0), ("none", 2)])
        same(self, [from_some(2, (0, 1, -1, 0), ROOT), from_some(2, (0, 1, -1, 0), ODD), from_some(2, (0, 1, -1, 0), EVEN)],
             [("none", 2), ("none", 2), ("none", 3)])
        same(self, [from_some(2, UP, (2, (0, 1))), from_some(2, UP, (-3, (0, 1))), from_some(2, UP, (0, (1, 4)))],
             [("half", 2, -2), ("half", 4, 3), ("half", 0, 0)])
        same(self, [from_some(3, OVER, EVEN), from_some(3, (1, 0, 0, 28), ROOT)], [("many", 2, 2), ("many", 4, 54)])

    def test_neighbours(self):
        # One step off the numbers go on in the same form.
        for p, m in [(2, UP), (3, (1, 0, 0, 10)), (2, (0, 1, -1, 0)), (2, TWICE)]:
            self.assertEqual({from_some(p, m, ball)[0] for ball in neighbours(p, ROOT)}, {from_some(p, m, ROOT)[0]})


if __name__ == "__main__":
    unittest.main()
