import unittest

from ballmoves.errors import NotStretching
from ballmoves.kept import gate, line_from
from ballmoves.kinds import kind, stretch
from ballmoves.lines import lines
from ballmoves.moves import after, back, led_point, power, size
from ballmoves.roads import steps, towards
from brute import ROOT
from some_moves import moves_at
from test_moves import STILL
from values import same, unchanged

PRIMES = (2, 3, 5, 97)
G, NEXT, TWICE = (2, 0, 0, 1), (1, 1, 0, 1), (0, 2, 1, 0)


def stretching_at(p):
    """Moves that stretch at p, and their words of two letters."""
    found = [m for m in moves_at(p) if stretch(p, m) > 0]
    return found + [after(found[k], found[k - 3]) for k in range(0, len(found), 2) if stretch(p, after(found[k], found[k - 3]))]


def balls_of(p, m, many):
    """The balls of a line, so many either way from one of them, as a move leads."""
    ball = gate(p, m, ROOT)
    return line_from(p, back(m), ball, many)[:0:-1] + line_from(p, m, ball, many)


def slow_lines(p, g, h):
    """What lines tells, found among the balls of both lines: a tuple, of "end" without its point."""
    one, other = balls_of(p, g, 30), balls_of(p, h, 60)
    shared = [ball for ball in one if ball in set(other)]
    if not shared:
        near = min((steps(p, u, v), one.index(u), u, v) for u in one for v in other)
        return ("apart", near[0], near[2], near[3])
    # Beyond the shared balls both go on apart, unless they share an end.
    way = 1
    if len(shared) > 1:
        way = 1 if other.index(shared[0]) < other.index(shared[1]) else -1
    if len(shared) == len(one):
        return ("same", way)
    if one[0] in shared or one[-1] in shared:
        return ("end",)
    return ("along", len(shared) - 1, way if len(shared) > 1 else 0, shared[0], shared[-1])


def lists_at(p):
    some = stretching_at(p)
    t = (1, 1, 1, p + 1)
    turned = [after(t, after(m, back(t))) for m in some[::4]]
    return some[:14:3] + some[-3:], some[1::5] + turned


class Lines(unittest.TestCase):
    def test_by_search(self):
        told = set()
        for p in PRIMES:
            ones, others = lists_at(p)
            for g in ones:
                for h in ones[::2] + others:
                    found = unchanged(self, lines, p, g, h)
                    expected = slow_lines(p, g, h)
                    if found[0] == "end":
                        self.assert_end(p, g, h, found)
                        found = found[:1]
                    same(self, found, expected)
                    told.add((found[0], found[2] if found[0] == "along" else found[1] == -1 if found[0] == "same" else None))
        self.assertEqual(told, {("same", False), ("same", True), ("end", None), ("apart", None), ("along", 1), ("along", -1),
                                ("along", 0)})

    def assert_end(self, p, g, h, found):
        point = found[1]
        self.assertEqual((led_point(g, point), led_point(h, point)), (point, point))
        ball = towards(p, ROOT, point, 90)
        self.assertTrue(ball in balls_of(p, g, 150) and ball in balls_of(p, h, 150))

    def test_not_stretching(self):
        for h, number in [(G, 0), (NEXT, 0), (TWICE, 0), (STILL, 0)]:
            for g in (NEXT, TWICE, STILL):
                with self.assertRaises(NotStretching) as caught:
                    unchanged(self, lines, 2, g, h)
                same(self, caught.exception.number, number)
        for h in (NEXT, TWICE, STILL, (3, 0, 0, 1)):
            with self.assertRaises(NotStretching) as caught:
                lines(2, G, h)
            same(self, caught.exception.number, 1)

    def test_same_lines(self):
        for p in PRIMES:
            for m in stretching_at(p)[::3]:
                for k in (1, 2, 3, 7):
                    same(self, lines(p, m, power(m, k)), ("same", 1))
                    same(self, lines(p, power(m, k), m), ("same", 1))
                    same(self, lines(p, m, power(m, -k)), ("same", -1))
                    same(self, lines(p, power(m, -k), power(m, 2)), ("same", -1))
        # Lines without points: these move along the roots of x x = x + 7 by 7.
        m = (1, 7, 1, 0)
        self.assertEqual(kind(7, m)[:2], ("stretches", 1))
        same(self, lines(7, m, after(m, m)), ("same", 1))
        same(self, lines(7, (15, 7, 1, 14), m), ("same", 1))
        same(self, lines(7, m, back((15, 7, 1, 14))), ("same", -1))

    def test_shared_ends(self):
        same(self, lines(2, G, (2, -1, 0, 1)), ("end", (1, 0)))
        same(self, lines(2, (2, -1, 0, 1), G), ("end", (1, 0)))
        same(self, lines(2, (1, 1, 0, 2), (2, 0, 0, 1)), ("end", (1, 0)))
        same(self, lines(2, G, (2, 0, 1, 1)), ("end", (0, 1)))
        same(self, lines(2, G, (1, 0, 99, 2)), ("end", (0, 1)))
        same(self, lines(97, (97, 0, 0, 1), (97, 999999, 0, 1)), ("end", (1, 0)))
        for point in [(1, 0), (0, 1), (1, 1), (-7, 3), (999, 1000)]:
            for p in (2, 3, 97):
                t = (point[0], point[0] * 2 + 1, point[1], point[1] * 2) if point[1] else STILL
                for one, other in [((p, 0, 0, 1), (p, 5, 0, 1)), ((1, 0, 0, p), (p * p, 7, 0, 1)), ((p, 1, 0, 1), (1, 9, 0, p ** 3))]:
                    if size(t) != 0:
                        g, h = [after(t, after(m, back(t))) for m in (one, other)]
                        same(self, lines(p, g, h), ("end", point))

    def test_named_lines(self):
        same(self, lines(2, G, (5, -3, 1, 1)), ("apart", 1, ROOT, (1, (1, 1))))
        same(self, lines(2, (5, -3, 1, 1), G), ("apart", 1, (1, (1, 1)), ROOT))
        same(self, lines(2, G, (14, 4, -4, 31)), ("along", 4, 1, (-2, (0, 1)), (2, (0, 1))))
        same(self, lines(2, back(G), (14, 4, -4, 31)), ("along", 4, -1, (2, (0, 1)), (-2, (0, 1))))
        same(self, lines(2, G, back((14, 4, -4, 31))), ("along", 4, -1, (-2, (0, 1)), (2, (0, 1))))
        same(self, lines(2, power(G, 7), (14, 4, -4, 31)), ("along", 4, 1, (-2, (0, 1)), (2, (0, 1))))
        same(self, lines(3, (3, 0, 0, 1), (1, 3, 3, 6))[0], "along")

    def test_at_one_ball(self):
        # At 3 these lines lead from 0 to far, and from 1 to -1.
        h = after((1, -1, 1, 1), after((3, 0, 0, 1), back((1, -1, 1, 1))))
        for one in ((3, 0, 0, 1), (1, 0, 0, 27)):
            for other in (h, back(h), power(h, 4)):
                same(self, lines(3, one, other), ("along", 0, 0, ROOT, ROOT))
                same(self, lines(3, other, one), ("along", 0, 0, ROOT, ROOT))

    def test_far_apart(self):
        for p in (2, 3, 97):
            for n in (2, 5, 30):
                # From p ** n to -p ** n, and from 1 to 1 + p ** n: the lines turn at the balls n, and at 0 towards 1.
                g = self.between(p, (p ** n, -p ** n, 1, 1))
                h = self.between(p, (1 + p ** n, 1, 1, 1))
                top = (n + (1 if p == 2 else 0), (p ** n, 1) if p == 2 else (0, 1))
                same(self, lines(p, g, h), ("apart", top[0] + n, top, (n, (1, 1))))
                same(self, lines(p, h, back(g)), ("apart", top[0] + n, (n, (1, 1)), top))

    def between(self, p, t):
        """A move that stretches along the line between the points of two columns."""
        return after(t, after((p, 0, 0, 1), back(t)))

    def test_long_along(self):
        for p in (2, 3, 97):
            for n in (1, 9, 40):
                # From p ** n to p ** -n, and from 0 to far.
                h = self.between(p, (p ** (2 * n), 1, p ** n, p ** n))
                found = lines(p, (p, 0, 0, 1), h)
                same(self, found, ("along", 2 * n, found[2], (-n, (0, 1)), (n, (0, 1))))
                same(self, lines(p, (p, 0, 0, 1), back(h)), ("along", 2 * n, -found[2], (-n, (0, 1)), (n, (0, 1))))
                same(self, lines(p, (p ** 3, 0, 0, 1), h), found)
                ends = found[3:] if found[2] == 1 else found[:2:-1]
                same(self, lines(p, h, (p, 0, 0, 1)), found[:3] + ends)


if __name__ == "__main__":
    unittest.main()
