import unittest
from itertools import product

from ballmoves.errors import TooMany
from ballmoves.leads import led
from ballmoves.moves import back
from ballmoves.orbits import judge_leading, leading, lots, orbit, reached
from ballmoves.places import place
from ballmoves.words import is_word, word_move, words
from brute import ROOT, key
from some_moves import some_balls
from test_moves import STILL
from values import NEVER, broken, deep, same, unchanged

UP, OVER, TWICE, ROUND = (1, 1, 0, 1), (0, 1, 1, 0), (2, 0, 0, 1), (0, 1, -1, 1)
EVEN, ODD = (1, (0, 1)), (1, (1, 1))
LISTS = [[UP], [OVER], [UP, OVER], [STILL], [ROUND, UP], [(0, 2, 1, 0)], [(0, 2, 1, 0), (1, 2, 0, 1)], [(1, 0, 2, 1), (1, 4, 0, 1), OVER],
         [(3, 0, 0, 1), (1, 0, 0, -1)], [(1, 1, 0, 3), (1, 0, 9, 1)], [TWICE], [UP, TWICE], [(1, 0, 0, 3), OVER, ROUND], [(2, 1, 1, 1)] * 5]


def slow_layers(p, moves, ball, n):
    """For 0 to n letters all balls to which words of just so many letters lead a ball, by going on letter by letter."""
    found = [{ball}]
    for _ in range(n):
        found.append({led(p, m, old) for old in found[-1] for one in moves for m in (one, back(one))})
    return found


def slow_orbit(p, moves, ball, most):
    """All balls of an orbit; None if there are more than most."""
    found, edge = {ball}, {ball}
    while edge and len(found) <= most:
        edge = {led(p, m, old) for old in edge for one in moves for m in (one, back(one))} - found
        found |= edge
    return found if len(found) <= most else None


class Orbit(unittest.TestCase):
    def test_by_letters(self):
        seen = set()
        for p, moves in product((2, 3, 5), LISTS):
            for ball in some_balls(p)[:8]:
                whole = slow_orbit(p, moves, ball, 400)
                seen.add(whole is None)
                for most in {1, 2, 7, 30, 400} if whole is None else {1, len(whole) - 1, len(whole), len(whole) + 1, 400} - {0}:
                    if whole is not None and len(whole) <= most:
                        found = unchanged(self, orbit, p, moves, ball, most)
                        same(self, found, sorted(whole, key=key))
                        same(self, orbit(p, tuple(moves), ball, most), found)
                    else:
                        with self.assertRaises(TooMany):
                            unchanged(self, orbit, p, moves, ball, most)
        self.assertEqual(seen, {True, False})

    def test_finite_where_none_stretches(self):
        for p, moves in product((2, 3, 5), LISTS):
            stretches = place(p, moves)[0] == "stretches"
            self.assertEqual(slow_orbit(p, moves, ROOT, 400) is None, stretches)

    def test_great_orbits(self):
        same(self, orbit(97, [UP], (1, (5, 1)), 97), [(1, (k, 1)) for k in range(97)])
        self.assertEqual(len(orbit(2, [UP], (8, (0, 1)), 256)), 256)
        self.assertEqual(len(orbit(3, [UP, OVER], (5, (7, 1)), 324)), 324)
        with self.assertRaises(TooMany):
            orbit(2, [UP], (8, (0, 1)), 255)

    def test_new_lists(self):
        orbit(2, [UP], EVEN, 9).append(0)
        same(self, orbit(2, [UP], EVEN, 9), [EVEN, ODD])


class Leading(unittest.TestCase):
    def test_shortest(self):
        for p, moves in product((2, 3), LISTS[:10]):
            for one in some_balls(p)[:6]:
                whole = slow_orbit(p, moves, one, 60)
                if whole is None:
                    continue
                layers = slow_layers(p, moves, one, 8)
                for other in whole | set(some_balls(p)[:4]):
                    word = unchanged(self, leading, p, moves, one, other, 60)
                    if other not in whole:
                        same(self, word, None)
                        continue
                    self.assertTrue(is_word(word, len(moves)))
                    self.assertEqual(led(p, word_move(moves, word), one), other)
                    same(self, judge_leading(p, moves, one, other, word), None)
                    if len(word) < 9:
                        self.assertEqual(len(word), [other in layer for layer in layers].index(True))
                    else:
                        self.assertFalse(any(other in layer for layer in layers))

    def test_named(self):
        same(self, leading(2, [UP], EVEN, EVEN, 2), ())
        same(self, leading(2, [UP], EVEN, ROOT, 9), None)
        self.assertIn(leading(2, [UP], EVEN, ODD, 2), [((0, 1),), ((0, -1),)])
        same(self, leading(97, [UP], (1, (0, 1)), (1, (3, 1)), 97), ((0, 1),) * 3)
        same(self, leading(97, [UP], (1, (0, 1)), (1, (95, 1)), 97), ((0, -1),) * 2)
        same(self, leading(2, [UP, OVER], (3, (0, 1)), (4, (0, 1)), 400), None)
        self.assertEqual(len(leading(2, [UP, OVER], (3, (0, 1)), (1, (1, 2)), 400)), 3)

    def test_too_many_ahead_of_all_else(self):
        for one, other in [(ROOT, ROOT), (ROOT, EVEN), (EVEN, ROOT), (EVEN, EVEN)]:
            with self.assertRaises(TooMany):
                leading(2, [TWICE], one, other, 400)
        with self.assertRaises(TooMany):
            leading(2, [UP], EVEN, EVEN, 1)
        with self.assertRaises(TooMany):
            leading(2, [UP], EVEN, ROOT, 1)

    def test_judged_words(self):
        for moves in LISTS[:6] + [[UP, TWICE]]:
            for word in words(len(moves), 3) + [((0, 1), (0, -1)) * 3, ((0, 1),) * 30]:
                for one in (ROOT, EVEN, ODD, (-1, (0, 1))):
                    there = led(2, word_move(moves, word), one)
                    same(self, unchanged(self, judge_leading, 2, moves, one, there, word), None)
                    for other in (ROOT, EVEN, (7, (3, 1))):
                        if other != there:
                            same(self, judge_leading(2, tuple(moves), one, other, word), ("ends",))

    def test_long_words(self):
        same(self, judge_leading(2, [UP, OVER], EVEN, ODD, ((0, 1), (1, 1), (1, 1)) * 200 + ((0, -1),)), None)
        same(self, judge_leading(2, [TWICE], ROOT, (600, (0, 1)), ((0, 1),) * 600), None)
        same(self, judge_leading(2, [TWICE], ROOT, (600, (0, 1)), ((0, 1),) * 599), ("ends",))
        wide = [(999999, 999998, 524288, 777777), (262144, 999983, 999961, 131072)]
        same(self, judge_leading(2, wide, ROOT, (7, (5, 1)), ((0, 1), (1, -1), (1, -1)) * 200), ("ends",))

    def test_form(self):
        values = [value for value in NEVER if value not in ((), ((0, 1),), ((0, 1),) * 3)] + [((1, 1),), ((0, 0),), ((0, 2),), ((-1, 1),), [(0, 1)], (0, 1), ((0, 1), 0)]
        values += [((0, 1), letter) for letter in broken((0, 1))] + [((True, 1),), ((0, True),), ((False, 1),), ((0, 1, 1),), ("a",)]
        for value in values:
            for one, other in ((EVEN, ODD), (EVEN, ROOT)):
                same(self, unchanged(self, judge_leading, 2, [UP], one, other, value), ("form",))
        same(self, judge_leading(2, [UP], EVEN, ODD, ()), ("ends",))
        same(self, judge_leading(2, [UP], EVEN, EVEN, ()), None)


class Reached(unittest.TestCase):
    def test_number_by_number(self):
        for p, moves in product((2, 3), LISTS):
            for ball in some_balls(p)[:5]:
                n = 5 if len(moves) < 4 else 3
                layers = slow_layers(p, moves, ball, n)
                expected = [len(set().union(*layers[:k + 1])) for k in range(n + 1)]
                for most in (expected[-1], 400):
                    if expected[-1] <= most <= 400:
                        same(self, unchanged(self, reached, p, moves, ball, n, most), expected)
                if expected[-1] > 1:
                    with self.assertRaises(TooMany):
                        reached(p, tuple(moves), ball, n, expected[-1] - 1)
                same(self, reached(p, moves, ball, 0, 1), [1])

    def test_named(self):
        same(self, reached(2, [TWICE], ROOT, 12, 25), list(range(1, 26, 2)))
        same(self, reached(2, [UP], EVEN, 12, 2), [1] + [2] * 12)
        same(self, reached(2, [STILL], EVEN, 3, 1), [1, 1, 1, 1])
        same(self, reached(97, [UP], (1, (0, 1)), 3, 7), [1, 3, 5, 7])
        with self.assertRaises(TooMany):
            reached(2, [TWICE], ROOT, 12, 24)
        reached(2, [TWICE], ROOT, 2, 9).append(0)
        same(self, reached(2, [TWICE], ROOT, 2, 9), [1, 3, 5])


class Lots(unittest.TestCase):
    def test_by_orbits(self):
        for p, moves in product((2, 3), LISTS[:10]):
            some = [ball for ball in some_balls(p)[:8] if slow_orbit(p, moves, ball, 400)]
            balls = some + some[::3] + [led(p, moves[0], ball) for ball in some[:2]]
            found = unchanged(self, lots, p, moves, balls, 400)
            left, expected = sorted(set(balls), key=key), []
            while left:
                whole = slow_orbit(p, moves, left[0], 400)
                expected.append([ball for ball in left if ball in whole])
                left = [ball for ball in left if ball not in whole]
            same(self, found, expected)
            same(self, lots(p, moves, tuple(balls[::-1]), 400), expected)

    def test_named(self):
        same(self, lots(2, [UP], [], 1), [])
        same(self, lots(2, [TWICE], (), 400), [])
        same(self, lots(2, [UP], [ROOT, ROOT], 1), [[ROOT]])
        same(self, lots(2, [UP], [ODD, (2, (3, 1)), EVEN, ROOT, (2, (0, 1)), ODD], 4), [[ROOT], [EVEN, ODD], [(2, (0, 1)), (2, (3, 1))]])
        same(self, lots(2, [STILL], [ODD, EVEN], 1), [[EVEN], [ODD]])

    def test_too_many(self):
        for balls, most in [([ROOT, EVEN], 1), ([(2, (0, 1)), ROOT], 3), ([EVEN, (2, (0, 1))], 3)]:
            with self.assertRaises(TooMany):
                lots(2, [UP], balls, most)
        with self.assertRaises(TooMany):
            lots(2, [TWICE], [ROOT], 400)
        same(self, lots(2, [UP], [(2, (0, 1)), ROOT], 4), [[ROOT], [(2, (0, 1))]])

    def test_new_lists(self):
        found = lots(2, [UP], [ROOT, EVEN, ODD], 2)
        before = deep(found)
        found[1].append(0)
        found.append([])
        self.assertEqual(deep(lots(2, [UP], [ROOT, EVEN, ODD], 2)), before)


if __name__ == "__main__":
    unittest.main()
