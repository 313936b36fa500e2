import unittest

from ballmoves.balls import is_ball
from ballmoves.ends import ends, shared_ends, toward
from ballmoves.errors import NoEnds
from ballmoves.kept import centre, gate
from ballmoves.kinds import kind, stretch
from ballmoves.leads import led
from ballmoves.moves import after, back, led_point, power
from ballmoves.roads import are_neighbours, steps, towards
from brute import ROOT, key
from some_moves import moves_at, some_balls
from test_moves import MOVES, STILL
from values import same, unchanged

PRIMES = (2, 3, 5, 11, 97)
HALF, NEXT, OVER, TWICE = (1, 0, 0, 2), (1, 1, 0, 1), (0, 1, 1, 0), (0, 2, 1, 0)


def count_ends(p, m):
    """How many ends, as the document counts them."""
    if m == STILL:
        return None
    if kind(p, m)[0] == "keeps":
        return {"line": 2, "end": 1}.get(centre(p, m)[0], 0)
    return 2 if stretch(p, m) > 0 else 0


def with_ends(p):
    return [m for m in moves_at(p) if count_ends(p, m)]


class Ends(unittest.TestCase):
    def test_as_counted(self):
        for p in PRIMES:
            told = []
            for m in moves_at(p):
                found = unchanged(self, ends, p, m)
                same(self, found, count_ends(p, m))
                told.append((kind(p, m)[0], found))
            for pair in [("keeps", 0), ("keeps", 1), ("keeps", 2), ("keeps", None), ("exchanges", 0), ("stretches", 2)]:
                self.assertIn(pair, told)

    def test_squares(self):
        # x is led to n / x: it keeps ends if n is a square by p, near to one at least.
        for p, n, expected in [(2, -7, 2), (2, 17, 2), (2, 4 * 17, 2), (2, 5, 0), (2, 3, 0), (2, 7, 0), (2, -1, 0), (2, 2, 0),
                               (2, 4 * 5, 0), (2, 16 * 9, 2), (2, 8, 0), (3, 7, 2), (3, 9 * 7, 2), (3, 5, 0), (3, 3, 0),
                               (3, 27, 0), (3, -2, 2), (5, -1, 2), (5, 2, 0), (5, 25 * 6, 2), (97, 2, 2), (97, 5, 0)]:
            same(self, ends(p, (0, n, 1, 0) if n > 0 else (0, -n, -1, 0)), expected)

    def test_what_the_package_made(self):
        for p in PRIMES:
            for m in moves_at(p)[::5]:
                turned = after((p, 1, 1, p), after(m, back((p, 1, 1, p))))
                same(self, ends(p, turned), ends(p, m))


class Toward(unittest.TestCase):
    def test_ways(self):
        for p in PRIMES:
            for m in with_ends(p)[::2 if p < 97 else 7]:
                for start in some_balls(p)[::3]:
                    layers = [unchanged(self, toward, p, m, start, n) for n in list(range(13)) + [99, 100]]
                    same(self, layers[0], [start])
                    for n, layer in enumerate(layers[:13]):
                        self.assertEqual(layer, sorted(set(layer), key=key))
                        self.assertTrue(all(is_ball(p, ball) and steps(p, start, ball) == n for ball in layer))
                    for one, other in list(zip(layers[:12], layers[1:13])) + [layers[13:]]:
                        self.assertTrue(all(any(are_neighbours(p, ball, out) for ball in one) for out in other))
                        self.assertTrue(all(any(are_neighbours(p, ball, out) for out in other) for ball in one))
                    self.assert_ends_are_kept(p, m, start, layers[-1])

    def assert_ends_are_kept(self, p, m, start, layer):
        """One comes to as many balls as there are ends; a way that is led to another end comes apart from it for ever."""
        self.assertEqual(len(layer), ends(p, m))
        for ball in layer:
            self.assertLessEqual(steps(p, ball, led(p, m, ball)), steps(p, start, led(p, m, start)))

    def test_ways_part_at_the_line(self):
        for p in PRIMES:
            for m in with_ends(p)[::3]:
                if stretch(p, m) > 0:
                    for start in some_balls(p):
                        apart = steps(p, start, gate(p, m, start))
                        self.assertEqual(len(toward(p, m, start, apart)), 1)
                        self.assertEqual(len(toward(p, m, start, apart + 1)), 2)

    def test_points_tell_ends(self):
        for p in PRIMES:
            for m, points in [((p, 0, 0, 1), [(0, 1), (1, 0)]), ((1, 1, 0, 1), [(1, 0)]), ((1, 0, 0, p + 1), [(0, 1), (1, 0)]),
                              ((1, 0, 1, 1), [(0, 1)]), ((0, 9, 1, 0), [(3, 1), (-3, 1)]), ((2, 0, 1, 1), [(0, 1), (1, 1)])]:
                self.assertEqual([led_point(m, point) for point in points], points)
                for start in some_balls(p):
                    for n in (0, 1, 2, 7, 40):
                        expected = {towards(p, start, point, n) for point in points}
                        same(self, toward(p, m, start, n), sorted(expected, key=key))

    def test_ends_that_are_no_points(self):
        m = (1, 1, 1, 0)
        self.assertEqual((ends(11, m), kind(11, m)[0], centre(11, m)[0]), (2, "keeps", "line"))
        for n in (1, 5, 100):
            found = toward(11, m, ROOT, n)
            self.assertEqual(len(found), 2)
            # The ends are the roots of x x = x + 1.
            for k, (upper, lower) in found:
                self.assertEqual((k, (upper * upper - upper - 1) % 11 ** n, lower), (n, 0, 1))

    def test_no_ends(self):
        for p, m in [(2, STILL), (2, TWICE), (2, (1, 1, 1, 0)), (2, (0, 1, -1, 0)), (97, STILL), (3, (0, 1, -1, 0))]:
            for n in (0, 1, 100):
                with self.assertRaises(NoEnds):
                    unchanged(self, toward, p, m, ROOT, n)

    def test_new_lists(self):
        for n in (0, 1, 3):
            found = toward(2, HALF, ROOT, n)
            found.append(None)
            self.assertNotIn(None, toward(2, HALF, ROOT, n))


class SharedEnds(unittest.TestCase):
    def slow(self, p, one, other):
        if one == other == STILL:
            return None
        if STILL in (one, other):
            return count_ends(p, other if one == STILL else one)
        if not count_ends(p, one) or not count_ends(p, other):
            return 0
        return len(set(toward(p, one, ROOT, 90)) & set(toward(p, other, ROOT, 90)))

    def test_all_sorts(self):
        for p in PRIMES:
            some = moves_at(p)[:33:2 if p < 97 else 4] + [STILL, (p + 1, 0, 0, 1), (p, 1, 0, 1), (1, 0, p, p), (1, 1, 0, p)]
            told = []
            for one in some:
                for other in some:
                    found = unchanged(self, shared_ends, p, one, other)
                    same(self, found, self.slow(p, one, other))
                    told.append(found)
            for expected in (None, 0, 1, 2):
                self.assertIn(expected, told)

    def test_named_pairs(self):
        same(self, shared_ends(2, STILL, STILL), None)
        same(self, shared_ends(2, STILL, TWICE), 0)
        same(self, shared_ends(2, OVER, STILL), 2)
        same(self, shared_ends(2, STILL, NEXT), 1)
        same(self, shared_ends(2, HALF, power(HALF, -3)), 2)
        same(self, shared_ends(11, (1, 1, 1, 0), power((1, 1, 1, 0), 4)), 2)
        same(self, shared_ends(2, (1, 1, 1, 0), power((1, 1, 1, 0), 4)), 0)
        same(self, shared_ends(2, NEXT, (1, 5, 0, 1)), 1)
        same(self, shared_ends(2, NEXT, (1, 0, 1, 1)), 0)
        same(self, shared_ends(2, (2, 0, 0, 1), (2, 0, 1, 1)), 1)

    def test_far_moves(self):
        for p in (2, 97):
            for one in MOVES[::3]:
                for other in MOVES[::4]:
                    t = power((p, 1, 0, 1), 20)
                    turned = [after(t, after(m, back(t))) for m in (one, other)]
                    same(self, shared_ends(p, *turned), shared_ends(p, one, other))


if __name__ == "__main__":
    unittest.main()
