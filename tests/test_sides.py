import unittest
from itertools import product

from ballmoves.balls import neighbours
from ballmoves.errors import NotStretching
from ballmoves.kinds import stretch
from ballmoves.leads import led
from ballmoves.lines import lines
from ballmoves.moves import after, back, power
from ballmoves.roads import are_apart, is_side, on_side, steps
from ballmoves.sides import four_sides, judge_sides
from ballmoves.words import word_move, words
from brute import ROOT, tree
from test_lines import PRIMES, lists_at
from test_moves import STILL
from values import NEVER, broken, same, unchanged

G, H, LONG = (2, 0, 0, 1), (5, -3, 1, 1), (14, 4, -4, 31)
FAR, NEAR = (ROOT, (-1, (0, 1))), (ROOT, (1, (0, 1)))
SIDES = (FAR, NEAR, ((1, (1, 1)), (2, (3, 1))), ((1, (1, 1)), (2, (1, 1))))


def around(p, sides):
    """Balls on both sides of what four sides are about."""
    found = {}
    for side in sides:
        for ball in side:
            found.update(tree(p, ball, 3 if p < 5 else 1))
    return list(found)


def slow_fault(p, g, h, sides):
    """The first fault of four sides."""
    return slow_fault_of_many(p, [g, h], sides)


def slow_fault_of_many(p, moves, sides):
    """The first fault of two sides of each move, looked for ball by ball around them."""
    balls = around(p, sides)
    lots = [{ball for ball in balls if steps(p, ball, v) < steps(p, ball, u)} for u, v in sides]
    for i, j in product(range(len(sides)), repeat=2):
        if i < j and lots[i] & lots[j]:
            return ("meet", i, j)
    for k, m in enumerate(moves):
        u, v = sides[2 * k + 1]
        for ball in balls:
            there = led(p, m, ball)
            if ball not in lots[2 * k] and not steps(p, there, v) < steps(p, there, u):
                return ("led", k)
    return None


def pairs_at(p):
    ones, others = lists_at(p)
    return [(g, h) for g in ones[::2] for h in ones[1::2] + others[::2]]


class FourSides(unittest.TestCase):
    def test_by_lines(self):
        for p in PRIMES:
            counts = {True: 0, False: 0}
            for g, h in pairs_at(p):
                found = unchanged(self, four_sides, p, g, h)
                told = lines(p, g, h)
                least = min(stretch(p, g), stretch(p, h))
                self.assertEqual(found is not None, told[0] == "apart" or told[0] == "along" and told[1] < least)
                counts[found is not None] += 1
                if found is not None:
                    self.assertTrue(type(found) is tuple and all(is_side(p, side) for side in found))
                    self.assertIsNone(judge_sides(p, g, h, found))
            self.assertTrue(counts[True] > 5 and counts[False] > 5)

    def test_ball_by_ball(self):
        for p in (2, 3):
            for g, h in pairs_at(p)[::2]:
                found = four_sides(p, g, h)
                if found is not None:
                    self.assertEqual(slow_fault(p, g, h, found), None)
                    for one, other in product(found, repeat=2):
                        self.assertTrue(one == other or are_apart(p, one, other))

    def test_words_keep_no_ball(self):
        for p in (2, 3):
            for g, h in pairs_at(p)[::3]:
                if four_sides(p, g, h) is not None:
                    for word in words(2, 4)[1:]:
                        self.assertGreater(stretch(p, word_move([g, h], word)), 0)

    def test_shared_balls(self):
        # The lines share 4 steps: both must stretch by more.
        for k in range(1, 8):
            for j in (1, 4, 5, 6):
                for g, h in [(power(G, k), power(LONG, j)), (power(G, -k), power(LONG, j)), (power(G, k), power(LONG, -j))]:
                    for one, other in ((g, h), (h, g)):
                        shared = lines(2, one, other)
                        self.assertEqual(shared[:2], ("along", 4))
                        found = four_sides(2, one, other)
                        self.assertEqual(found is not None, min(stretch(2, one), stretch(2, other)) > 4)
                        if found is not None:
                            self.assertIsNone(judge_sides(2, one, other, found))
                            self.assertFalse(any(on_side(2, side, ball) for side in found for ball in shared[3:]))

    def test_none(self):
        for g, h in [(G, G), (G, back(G)), (G, (2, -1, 0, 1)), (G, (1, 0, 0, 4)), (G, LONG), ((8, 0, 0, 1), LONG)]:
            same(self, four_sides(2, g, h), None)
        self.assertIsNotNone(four_sides(2, power(G, 5), power(LONG, 5)))

    def test_not_stretching(self):
        for g, h, number in [(STILL, G, 0), (STILL, STILL, 0), ((0, 2, 1, 0), (1, 1, 0, 1), 0), (G, STILL, 1), (G, (0, 2, 1, 0), 1),
                             (G, (3, 0, 0, 1), 1), ((3, 0, 0, 1), G, 0)]:
            with self.assertRaises(NotStretching) as caught:
                unchanged(self, four_sides, 2, g, h)
            same(self, caught.exception.number, number)

    def test_far_moves(self):
        for p in (2, 97):
            t = power((p, 1, 1, p), 9)
            for g, h in pairs_at(p)[::5]:
                one, other = [after(t, after(m, back(t))) for m in (g, h)]
                found = four_sides(p, one, other)
                self.assertEqual(found is None, four_sides(p, g, h) is None)
                if found is not None:
                    self.assertIsNone(judge_sides(p, one, other, found))


class Judged(unittest.TestCase):
    def test_changed_ones(self):
        """Sides exchanged, turned about, moved along, and put in for others."""
        faults = set()
        for p in (2, 3):
            for g, h in pairs_at(p)[::3]:
                found = four_sides(p, g, h)
                if found is None:
                    continue
                values = [found[1:] + found[:1], found[::-1], found[2:] + found[:2], (found[0],) * 4]
                for k in range(4):
                    u, v = found[k]
                    beside = [other for other in neighbours(p, u) if other != v][0]
                    beyond = [other for other in neighbours(p, v) if other != u][-1]
                    put = [(v, u), (v, beyond), (beside, u), (u, beside), (beyond, v)] + list(found)
                    values += [found[:k] + (side,) + found[k + 1:] for side in put]
                for value in values:
                    expected = slow_fault(p, g, h, value)
                    same(self, unchanged(self, judge_sides, p, g, h, value), expected)
                    faults.add(expected)
        self.assertLessEqual({None, ("led", 0), ("led", 1)} | {("meet", i, j) for i in range(4) for j in range(i + 1, 4)}, faults)

    def test_other_moves(self):
        for g in (G, H, STILL, back(G), (4, 0, 0, 1), (1, 1, 0, 1), (0, 2, 1, 0), (0, 1, 1, 0), power(H, 3)):
            for h in (H, G, STILL, back(H), (0, 1, -1, 1), (0, 2, 1, 0), power(H, 2)):
                same(self, judge_sides(2, g, h, SIDES), slow_fault(2, g, h, SIDES))

    def test_moves_that_do_not_stretch(self):
        for m in (STILL, (0, 1, 1, 0), (0, 2, 1, 0), (3, 0, 0, 1)):
            same(self, judge_sides(2, m, H, SIDES), ("led", 0))
            same(self, judge_sides(2, G, m, SIDES), ("led", 1))
            same(self, judge_sides(2, m, m, SIDES), ("led", 0))
            same(self, judge_sides(2, m, m, SIDES[:3] + SIDES[:1]), ("meet", 0, 3))

    def test_first_faults(self):
        same(self, judge_sides(2, G, H, SIDES), None)
        same(self, judge_sides(2, G, H, (FAR, FAR, FAR, FAR)), ("meet", 0, 1))
        same(self, judge_sides(2, G, H, (FAR, NEAR, NEAR, FAR)), ("meet", 0, 3))
        same(self, judge_sides(2, G, H, (FAR, NEAR, NEAR, NEAR)), ("meet", 1, 2))
        same(self, judge_sides(2, G, H, (NEAR, FAR) + SIDES[2:]), ("led", 0))
        same(self, judge_sides(2, G, H, SIDES[:2] + SIDES[:1:-1]), ("led", 1))
        same(self, judge_sides(2, G, H, SIDES[1::-1] + SIDES[:1:-1]), ("led", 0))
        same(self, judge_sides(2, G, H, (FAR, NEAR, SIDES[2], SIDES[3][::-1])), ("meet", 0, 3))

    def test_form(self):
        for g, h in [(G, H), (STILL, STILL)]:
            for value in broken(SIDES):
                same(self, unchanged(self, judge_sides, 2, g, h, value), ("form",))
            for value in NEVER + [(), SIDES[:3], SIDES + SIDES[:1], (ROOT,) * 4, ((ROOT, ROOT),) * 4, (None,) * 4, SIDES[0],
                                  ((ROOT, (2, (0, 1))),) + SIDES[1:], (((0, (1, 3)), ROOT),) + SIDES[1:], (SIDES,) * 4,
                                  SIDES[:3] + ((ROOT, (1, (0, 1)), ROOT),), SIDES[:3] + ((ROOT,),), SIDES[:3] + (PLACE,)]:
                same(self, unchanged(self, judge_sides, 2, g, h, value), ("form",))

    def test_far_sides(self):
        far = (((300, (0, 1)), (301, (0, 1))), ((-300, (0, 1)), (-301, (0, 1))))
        same(self, judge_sides(2, back(G), H, far + SIDES[2:]), ("led", 0))
        same(self, judge_sides(2, power(G, -601), H, far + SIDES[2:]), None)


PLACE = ("pair", ROOT, (1, (0, 1)))


if __name__ == "__main__":
    unittest.main()
