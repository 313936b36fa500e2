import unittest

from ballmoves.balls import ball, neighbours
from ballmoves.errors import NotKept, NotOnLine
from ballmoves.kept import centre, depth, gate, judge_centre, keeps, line_from, on_line
from ballmoves.kinds import kind, stretch
from ballmoves.leads import led
from ballmoves.moves import after, back, led_point, power, size, sum_of
from ballmoves.roads import are_neighbours, steps, towards
from brute import ROOT, around, tree
from some_moves import moves_at, some_balls
from test_moves import STILL
from values import NEVER, broken, same, unchanged

MOST = {2: 4, 3: 3, 5: 2, 97: 1}
NEAR = {p: list(tree(p, ROOT, MOST[p])) for p in MOST}
HALF, NEXT, OVER, TWICE = (1, 0, 0, 2), (1, 1, 0, 1), (0, 1, 1, 0), (0, 2, 1, 0)


def is_kept(p, m, ball):
    return led(p, m, ball) == ball


def is_gate(p, m, ball):
    """Whether a ball is one of those among which the gate is looked for."""
    there = led(p, m, ball)
    if stretch(p, m) > 0:
        return steps(p, ball, there) == stretch(p, m)
    if kind(p, m)[0] == "keeps":
        return there == ball
    return steps(p, ball, there) == 1


def slow_gates(p, m, start, most):
    """The nearest balls among which the gate is looked for, as far as so many steps."""
    edge, seen = [start], {start}
    for _ in range(most + 1):
        found = [ball for ball in edge if is_gate(p, m, ball)]
        if found:
            return found
        edge = [other for ball in edge for other in around(p, ball) if other not in seen]
        seen.update(edge)
    return []


def slow_depth(p, m, ball, most):
    """How many steps around a ball all balls are kept, at most so many."""
    edge, seen, r = [ball], {ball}, -1
    while r < most and all(is_kept(p, m, other) for other in edge):
        edge = [other for old in edge for other in around(p, old) if other not in seen]
        seen.update(edge)
        r += 1
    return r


class Lines(unittest.TestCase):
    def test_on_line(self):
        for p, balls in NEAR.items():
            for m in moves_at(p):
                length = stretch(p, m)
                for ball in balls[:60] + some_balls(p):
                    expected = length > 0 and steps(p, ball, led(p, m, ball)) == length
                    same(self, unchanged(self, on_line, p, m, ball), expected)

    def test_moves_that_keep_balls_have_none(self):
        same(self, on_line(2, OVER, (1, (1, 1))), False)
        same(self, on_line(2, STILL, ROOT), False)
        same(self, on_line(3, (4, 0, 0, 1), ROOT), False)
        same(self, on_line(2, TWICE, ROOT), False)
        for m in (OVER, STILL, TWICE, NEXT):
            with self.assertRaises(NotOnLine):
                line_from(2, m, ROOT, 0)

    def test_line_from(self):
        for p in MOST:
            for m in moves_at(p):
                length = stretch(p, m)
                if length == 0:
                    continue
                for start in (kind(p, m)[2], gate(p, m, some_balls(p)[-1])):
                    found = unchanged(self, line_from, p, m, start, 25)
                    self.assertEqual((len(found), type(found), found[0]), (26, tuple, start))
                    self.assertEqual(len(set(found)), 26)
                    for k in range(25):
                        self.assertTrue(are_neighbours(p, found[k], found[k + 1]))
                        self.assertTrue(on_line(p, m, found[k]))
                        if k >= length:
                            self.assertEqual(led(p, m, found[k - length]), found[k])
                    for k in (0, 1, length - 1, length, length + 1, 13):
                        same(self, line_from(p, m, start, k), found[:k + 1] if k < 26 else line_from(p, m, start, k))

    def test_longer_stretches_than_the_line_told(self):
        same(self, line_from(2, (8, 0, 0, 1), (5, (0, 1)), 2), ((5, (0, 1)), (6, (0, 1)), (7, (0, 1))))
        same(self, line_from(2, (8, 0, 0, 1), ROOT, 0), (ROOT,))
        same(self, line_from(2, (1, 0, 0, 8), ROOT, 4), tuple((-k, (0, 1)) for k in range(5)))
        self.assertEqual(len(line_from(97, (97, 1, 0, 1), ROOT, 60)), 61)

    def test_not_on_line(self):
        for ball in [(1, (1, 1)), (0, (1, 2)), (40, (1, 1))]:
            for k in (0, 3):
                with self.assertRaises(NotOnLine):
                    line_from(2, HALF, ball, k)

    def test_two_neighbours_on_it(self):
        for p in (2, 3, 5):
            for m in moves_at(p):
                if stretch(p, m) > 0:
                    ball = kind(p, m)[2]
                    self.assertEqual(len([other for other in neighbours(p, ball) if on_line(p, m, other)]), 2)


class Gates(unittest.TestCase):
    def test_keeps(self):
        for p, balls in NEAR.items():
            for m in moves_at(p):
                for ball in balls[:40] + some_balls(p):
                    same(self, unchanged(self, keeps, p, m, ball), is_kept(p, m, ball))

    def test_gate_by_search(self):
        for p in MOST:
            for m in moves_at(p)[::2]:
                for start in NEAR[p][:16:2] + some_balls(p):
                    found = unchanged(self, gate, p, m, start)
                    self.assertTrue(is_gate(p, m, found))
                    ways = steps(p, start, found)
                    if ways <= MOST[p]:
                        same(self, slow_gates(p, m, start, ways), [found])

    def test_far_gates(self):
        same(self, gate(2, STILL, (40, (1, 1))), (40, (1, 1)))
        same(self, gate(2, HALF, (40, (1, 1))), ROOT)
        same(self, gate(2, HALF, (40, (5, 8))), (-3, (0, 1)))
        same(self, gate(2, TWICE, (-40, (0, 1))), ROOT)
        same(self, gate(2, TWICE, (40, (0, 1))), (1, (0, 1)))
        same(self, gate(3, (0, 1, -1, 0), (-40, (0, 1))), ROOT)
        same(self, gate(3, NEXT, (40, (7, 9))), (0, (7, 9)))
        for p in MOST:
            for m in moves_at(p):
                for start in [(40, (p - 1, 1)), (-40, (0, 1)), ball(p, 40, (1, p ** 38))]:
                    found = gate(p, m, start)
                    self.assertTrue(is_gate(p, m, found))
                    # It is the nearest one, if the balls ahead of it on the road are none.
                    far = steps(p, start, led(p, m, start))
                    if kind(p, m)[0] == "exchanges":
                        self.assertEqual(far, 2 * steps(p, start, found) + 1)
                    else:
                        self.assertEqual(far, 2 * steps(p, start, found) + stretch(p, m))


class Depths(unittest.TestCase):
    def test_depth_by_search(self):
        for p, balls in NEAR.items():
            for m in moves_at(p)[::2]:
                for ball in balls[:24:2] + some_balls(p)[::2]:
                    if m == STILL:
                        same(self, depth(p, m, ball), None)
                    elif not is_kept(p, m, ball):
                        with self.assertRaises(NotKept):
                            unchanged(self, depth, p, m, ball)
                    else:
                        found = unchanged(self, depth, p, m, ball)
                        self.assertIs(type(found), int)
                        self.assertEqual(min(found, MOST[p]), slow_depth(p, m, ball, MOST[p]))

    def test_named_depths(self):
        same(self, depth(2, STILL, (40, (1, 1))), None)
        same(self, depth(2, NEXT, (-40, (0, 1))), 40)
        same(self, depth(2, (1, 2 ** 19, 0, 1), ROOT), 19)
        same(self, depth(97, (1, 97 ** 3, 0, 1), (-2, (0, 1))), 5)
        same(self, depth(2, (1, 0, 0, -1), ROOT), 1)
        same(self, depth(97, (1, 0, 0, -1), ROOT), 0)
        for m in (HALF, TWICE):
            with self.assertRaises(NotKept):
                depth(2, m, ROOT)


class Centres(unittest.TestCase):
    def assert_centre(self, p, m, found):
        """Looks at a told centre ball by ball."""
        word, r = found[0], found[-1]
        first = found[1]
        self.assertEqual(depth(p, m, first), r)
        self.assertEqual(slow_depth(p, m, first, MOST[p]), min(r, MOST[p]))
        depths = {other: depth(p, m, other) for other in neighbours(p, first) if is_kept(p, m, other)}
        deepest = [other for other in depths if depths[other] == r]
        self.assertLessEqual(max(depths.values(), default=-1), r)
        self.assertEqual(len(deepest), {"ball": 0, "pair": 1, "line": 2}[word])
        if word == "pair":
            self.assertEqual((deepest, first[0] + 1), ([found[2]], found[2][0]))
        if word != "line":
            middles = found[1:-1]
            for ball in NEAR[p] + some_balls(p):
                nearest = min(steps(p, ball, middle) for middle in middles)
                self.assertEqual(is_kept(p, m, ball), nearest <= r)

    def test_ball_by_ball(self):
        for p in MOST:
            told = []
            for m in moves_at(p):
                if m == STILL:
                    same(self, centre(p, m), None)
                elif kind(p, m)[0] != "keeps":
                    with self.assertRaises(NotKept):
                        unchanged(self, centre, p, m)
                else:
                    found = unchanged(self, centre, p, m)
                    told.append(found[0])
                    self.assertEqual(found[0] == "end", sum_of(m) ** 2 == 4 * size(m))
                    if found[0] == "end":
                        self.assertEqual(led_point(m, found[1]), found[1])
                    else:
                        self.assert_centre(p, m, found)
            for word in ("ball", "line", "end") + (("pair",) if p in (2, 3, 5) else ()):
                self.assertIn(word, told, p)

    def test_named_centres(self):
        same(self, centre(2, STILL), None)
        same(self, centre(3, (1, 0, 3, 1)), ("end", (0, 1)))
        same(self, centre(2, (1, 1, -1, 3)), ("end", (1, 1)))
        same(self, centre(2, (0, 1, -1, 1)), ("ball", ROOT, 0))
        same(self, centre(97, (1, 97, 1, 1)), ("pair", ROOT, (1, (0, 1)), 0))
        same(self, centre(3, (1, 0, 0, 28))[::2], ("line", 3))
        same(self, centre(3, after((9, 1, 0, 1), after((1, 3, 1, 1), back((9, 1, 0, 1))))), ("pair", (2, (1, 1)), (3, (1, 1)), 0))
        same(self, centre(3, (1, 9, 18, 1)), ("ball", ROOT, 2))
        same(self, centre(5, (0, 1, 1, 0))[::2], ("line", 0))

    def test_far_line(self):
        m = after((1, 1, 1, 2 ** 19 - 1), after((1, 0, 0, 17), back((1, 1, 1, 2 ** 19 - 1))))
        found = centre(2, m)
        self.assertEqual((found[0], found[2]), ("line", 4))
        self.assertEqual(depth(2, m, found[1]), 4)

    def test_powers_of_what_keeps_an_end(self):
        m = power((1, 1, 0, 1), 3 ** 9)
        self.assertEqual(centre(3, after(power((3, 1, 1, 2), 20), after(m, power((3, 1, 1, 2), -20))))[0], "end")


class Judged(unittest.TestCase):
    def test_told_ones(self):
        for p in MOST:
            for m in moves_at(p):
                if kind(p, m)[0] == "keeps" and m != STILL:
                    self.assertIsNone(unchanged(self, judge_centre, p, m, centre(p, m)))

    def test_wrong_ones(self):
        for p in MOST:
            for m in moves_at(p):
                if kind(p, m)[0] != "keeps" or m == STILL:
                    continue
                right = centre(p, m)
                values = [("end", (1, 0)), ("end", (0, 1)), ("end", (1, 1)), ("ball", ROOT, 0), ("line", ROOT, 0),
                          ("line", ROOT, 1), ("line", ROOT, -1), ("pair", ROOT, (1, (0, 1)), 0), ("pair", ROOT, ROOT, 0)]
                if right[0] != "end":
                    values += [right[:-1] + (right[-1] + k,) for k in (-1, 1, 10 ** 39)]
                    values += [(word,) + right[1:2] + right[-1:] for word in ("ball", "line")]
                if right[0] == "pair":
                    values += [("pair", right[2], right[1], right[3]), ("pair", right[1], right[1], right[3])]
                for value in values:
                    expected = ("wrong",)
                    if value == right or right[0] == value[0] == "line" and self.is_deepest(p, m, value, right[2]):
                        expected = None
                    same(self, unchanged(self, judge_centre, p, m, value), expected)

    def is_deepest(self, p, m, value, r):
        return value[2] == r and is_kept(p, m, value[1]) and depth(p, m, value[1]) == r

    def test_balls_of_a_line(self):
        for n in range(-30, 31):
            self.assertIsNone(judge_centre(3, (4, 0, 0, 1), ("line", (n, (0, 1)), 1)))
            self.assertIsNone(judge_centre(3, (4, 0, 0, 1), ("line", (10 * n, (0, 1)), 1)))
            same(self, judge_centre(3, (4, 0, 0, 1), ("line", ball(3, n, (1, 3 ** 40)), 1)), ("wrong",) if n > -40 else None)
            same(self, judge_centre(3, (4, 0, 0, 1), ("line", (n, (0, 1)), 0)), ("wrong",))
        for value in (("ball", ROOT, 1), ("pair", ROOT, (1, (0, 1)), 1), ("end", (1, 0))):
            same(self, judge_centre(3, (4, 0, 0, 1), value), ("wrong",))

    def test_lines_without_points(self):
        m = (1, 1, 1, 0)
        far = towards(11, ROOT, (0, 1), 3)
        same(self, centre(11, m)[::2], ("line", 0))
        same(self, judge_centre(11, m, ("line", ROOT, 0)), None)
        same(self, judge_centre(11, m, ("line", far, 0)), ("wrong",))

    def test_form(self):
        papers = [("ball", ROOT, 0), ("pair", ROOT, (1, (0, 1)), 0), ("line", (0, (1, 2)), 1), ("end", (1, 0)), ("end", (0, 1))]
        for m in [NEXT, OVER, (0, 1, -1, 0), (0, 1, -1, 1)]:
            for paper in papers:
                for value in broken(paper):
                    same(self, unchanged(self, judge_centre, 2, m, value), ("form",))
            for value in NEVER + [("ball", ROOT), ("line", ROOT), ("ball", ROOT, ROOT, 0), ("pair", ROOT, 0), ("end",),
                                  ("end", (2, 0)), ("end", (0, 2)), ("end", ROOT), ("ball", (1, (2, 1)), 0), ("ball", 0, ROOT),
                                  ("pair", ROOT, (0, (1, 3)), 0), ("pair", (0, (1, 1)), ROOT, 0), ("line", (0, (-1, 2)), 0),
                                  ("end", (1, 0), 0), ("keeps", ROOT, 0), ([], ROOT, 0), ("line", ROOT, (0, 1))]:
                same(self, unchanged(self, judge_centre, 2, m, value), ("form",))


if __name__ == "__main__":
    unittest.main()
