import unittest
from itertools import permutations, product

from ballmoves.balls import neighbours
from ballmoves.errors import NotKept
from ballmoves.kinds import stretch
from ballmoves.leads import led
from ballmoves.lines import lines
from ballmoves.lists import judge_list, kept_by_all, kept_points, list_kind, shift
from ballmoves.moves import after, back, led_point, move, power
from ballmoves.places import place
from ballmoves.points import is_point
from ballmoves.roads import is_side, towards
from ballmoves.sides import judge_sides
from ballmoves.words import is_word, shortened, word_move
from brute import ROOT, tree
from some_moves import moves_at
from test_moves import MOVES, POINTS, STILL
from test_sides import slow_fault
from values import NEVER, broken, same, unchanged

HALF, UP, TURN, ROUND, TWICE, OVER = (1, 0, 0, 2), (1, 1, 0, 1), (0, 1, 1, 0), (0, 1, -1, 1), (2, 0, 0, 1), (0, 2, 1, 0)
G, H, PULL = (2, 0, 0, 1), (5, -3, 1, 1), (1, 3, -1, 5)
# At 7 this one stretches along a line whose ends are no points, and the other one exchanges the two ends.
NO_POINTS, MATE = (1, 7, 1, 0), (1, -1, 0, -1)
SIDES = ((ROOT, (1, (0, 1))), (ROOT, (-1, (0, 1))), ((1, (1, 1)), (2, (1, 1))), ((1, (1, 1)), (2, (3, 1))))
PRIMES = (2, 3, 5, 97)


def key(q):
    """Fractions ascend, far comes last."""
    return (1, 0) if q == (1, 0) else (0, q[0] / q[1])


def led_by(t, moves):
    """Moves led by another one: they do at t's balls and points what they did before."""
    return [after(t, after(m, back(t))) for m in moves]


def keeping_points(one, other, p):
    """Moves that keep two points, and stretch between them by 1 at p."""
    t = (one[0], other[0], one[1], other[1])
    return move(*after(t, after((p, 0, 0, 1), back(t))))


class Points(unittest.TestCase):
    def test_by_search(self):
        near = [(1, 0)] + [(x, y) for y in range(1, 13) for x in range(-30, 31) if is_point((x, y))]
        small = [m for m in MOVES + moves_at(2) + moves_at(3) if max(abs(part) for part in m) <= 12]
        for m in small + [(3, 4, 2, 1), (1, 2, 2, 1), (0, 4, 9, 0), (5, -3, 12, -10), (1, 1, -1, 3), (7, -1, 1, 5)]:
            if m == STILL:
                same(self, kept_points(m), None)
            else:
                same(self, unchanged(self, kept_points, m), sorted([q for q in near if led_point(m, q) == q], key=key))

    def test_two_points(self):
        for one, other in permutations(POINTS + [(-5, 7), (1000, 999)], 2):
            for p in (2, 97):
                same(self, kept_points(keeping_points(one, other, p)), sorted([one, other], key=key))

    def test_one_point(self):
        for x, y in POINTS:
            t = (x, x - 1, y, y) if y else STILL
            self.assertEqual(led_point(t, (1, 0)), (x, y))
            for m in led_by(t, [UP, (1, -7, 0, 1), (3, 1, 0, 3)]):
                same(self, kept_points(m), [(x, y)])

    def test_no_points(self):
        for m in [(0, 1, -1, 0), (0, 2, 1, 0), (0, 1, -1, 1), (1, 1, 1, 0), NO_POINTS, (0, 10 ** 40 + 1, 1, 0)]:
            same(self, kept_points(m), [])
        same(self, kept_points((0, 10 ** 80, 1, 0)), [(-10 ** 40, 1), (10 ** 40, 1)])

    def test_new_lists(self):
        kept_points(HALF).append(0)
        same(self, kept_points(HALF), [(0, 1), (1, 0)])
        kept_by_all([HALF]).append(0)
        same(self, kept_by_all([HALF]), [(0, 1), (1, 0)])

    def test_kept_by_all(self):
        for some in product([STILL, HALF, UP, TURN, (3, 0, 0, 1), (1, 0, 5, 1), (0, 2, 1, 0), (2, -1, 0, 1), (1, 2, 2, 1)], repeat=3):
            lists = [kept_points(m) for m in some if m != STILL]
            expected = None if not lists else [q for q in lists[0] if all(q in points for points in lists)]
            same(self, unchanged(self, kept_by_all, list(some)), expected)
            same(self, kept_by_all(some), expected)
        same(self, kept_by_all([]), None)
        same(self, kept_by_all(()), None)
        same(self, kept_by_all([STILL, STILL]), None)
        same(self, kept_by_all([UP, HALF, STILL, (2, -1, 0, 1)]), [(1, 0)])
        same(self, kept_by_all([TURN, (1, 2, 2, 1), STILL]), [(-1, 1), (1, 1)])
        same(self, kept_by_all([UP, TURN]), [])


class Shift(unittest.TestCase):
    def test_by_balls(self):
        for p in PRIMES:
            for m in moves_at(p)[::2]:
                for q in POINTS[:4] if m == STILL else kept_points(m):
                    by = unchanged(self, shift, p, m, q)
                    self.assertEqual((type(by), abs(by)), (int, stretch(p, m)))
                    far = towards(p, ROOT, q, 60)
                    self.assertEqual(led(p, m, far), towards(p, ROOT, q, 60 + by))

    def test_products_and_backs(self):
        for p in PRIMES:
            for one, other in product([(0, 1), (1, 1), (-3, 7)], [(1, 0), (5, 1)]):
                some = [keeping_points(one, other, p), keeping_points(other, one, p), keeping_points(one, (9, 2), p),
                        power(keeping_points(one, (9, 2), p), -3), STILL]
                for g, h in product(some, repeat=2):
                    same(self, shift(p, after(g, h), one), shift(p, g, one) + shift(p, h, one))
                    same(self, shift(p, back(g), one), -shift(p, g, one))
                    same(self, shift(p, power(g, 5), one), 5 * shift(p, g, one))

    def test_named(self):
        same(self, [shift(2, HALF, (1, 0)), shift(2, HALF, (0, 1)), shift(3, HALF, (0, 1)), shift(2, UP, (1, 0))], [1, -1, 0, 0])
        same(self, [shift(2, STILL, (1, 0)), shift(2, STILL, (7, 3))], [0, 0])
        same(self, [shift(2, (16, 0, 0, 9), (0, 1)), shift(3, (16, 0, 0, 9), (0, 1))], [4, -2])

    def test_not_kept(self):
        for m, q in [(UP, (0, 1)), (HALF, (1, 1)), (TURN, (1, 0)), (TURN, (0, 1)), (ROUND, (5, 1)), (NO_POINTS, (1, 0))]:
            for p in PRIMES:
                with self.assertRaises(NotKept):
                    unchanged(self, shift, p, m, q)


def lists_of(p):
    """Lists of moves with the kind that each one is of."""
    k = 3 if p == 2 else 2
    line, far_line = keeping_points((1, 1), (-1, 1), p), keeping_points((1, p), (2, 1), p)
    lists = [("ball", [UP]), ("ball", [UP, TURN, ROUND]), ("ball", [STILL]), ("ball", [(1, 0, 0, p * p + 1), UP]),
             ("ball", [(1, p, 0, 1), (1, 0, p, 1)]), ("ball", led_by((p, 1, 0, p * p), [UP, TURN])),
             ("pair", [(0, p, 1, 0)]), ("pair", [(0, p, 1, 0), (1, 0, 0, 1)]), ("pair", [(1, p, 0, 1), (0, p, 1, 0), (1, 0, 0, -1)]),
             ("pair", [(1, 0, p, 1), (0, p, 1, 0), (0, p, -1, 0)]), ("pair", led_by((1, 2, 0, p), [(0, p, 1, 0), (1, p, 0, 1)])),
             ("end", [(p, 0, 0, 1), UP]), ("end", [UP, (1, 0, 0, p), (1, 5, 0, p)]), ("end", [(p, 0, 0, 1)]),
             ("end", [(p, 0, 0, 1), (k, 0, 0, 1)]), ("end", led_by((3, 1, 7, 2), [(p, 0, 0, 1), (1, 1, 0, p)])), ("end", [far_line]),
             ("end", [power((p, 0, 0, 1), 3), (1, 9, 0, 1), STILL]), ("end", [(1, 0, 1, 1), (p, 0, 1, 1)]),
             ("line", [(p, 0, 0, 1), TURN]), ("line", [TURN, (0, p, 1, 0)]), ("line", [(0, 1, 1, 0), (0, p * p, 1, 0)]),
             ("line", [power((p, 0, 0, 1), 2), (0, 5, 7, 0)]), ("line", led_by((1, 1, 2, 3), [TURN, (p, 0, 0, 1), STILL])),
             ("line", [line, (0, 1, -1, 0), (1, 0, 0, -1)] if p > 2 else [(0, 3, 1, 0), (4, 0, 0, 1)]),
             ("free", [(p, 0, 0, 1), ROUND]), ("free", [(p, 0, 0, 1), line]), ("free", [UP, TURN, (p, 0, 0, 1)]),
             ("free", [UP, (1, 0, 1, 1 + p), (0, p, 1, 0)]), ("free", [power((p, 0, 0, 1), 5), UP, (1, 0, p, 1)]),
             ("free", [(p, 0, 0, 1), (1, 1, 0, 1), (1, 0, 1, 1)]), ("free", [(0, p, 1, 0), UP]), ("free", [STILL, far_line, line]),
             ("free", led_by((3, 1, 1, 5), [(p, 0, 0, 1), ROUND])), ("free", [(0, p ** 3, 1, 0), (1, 1, 0, 1)])]
    return lists


NEAR = {p: list(tree(p, ROOT, 5 if p < 5 else 1)) for p in PRIMES + (7,)}


class Kinds(unittest.TestCase):
    def look(self, p, moves):
        """Looks at the told kind by balls, points, words and sides; returns its word."""
        told = unchanged(self, list_kind, p, moves)
        same(self, unchanged(self, judge_list, p, moves, told), None)
        self.assertIs(type(told), tuple)
        {"ball": self.look_at_place, "pair": self.look_at_place, "end": self.look_at_end, "line": self.look_at_line,
         "free": self.look_at_free}[told[0]](p, moves, told)
        return told[0]

    def look_at_place(self, p, moves, told):
        for m in moves:
            self.assertEqual(sorted(led(p, m, ball) for ball in told[1:]), sorted(told[1:]))
        if told[0] == "pair":
            self.assertIn(told[2], neighbours(p, told[1])[1:])
            self.assertTrue(any(led(p, m, told[1]) == told[2] for m in moves))

    def look_at_stretch(self, p, moves):
        self.assertEqual(place(p, moves)[0], "stretches")
        self.assertFalse([ball for ball in NEAR[p] if all(led(p, m, ball) == ball for m in moves)])

    def look_at_end(self, p, moves, told):
        self.look_at_stretch(p, moves)
        self.assertTrue(all(led_point(m, told[1]) == told[1] for m in moves))

    def look_at_line(self, p, moves, told):
        self.assertEqual(kept_by_all(moves), [])
        self.assertTrue(is_word(told[1], len(moves)))
        w = word_move(moves, told[1])
        self.assertGreater(stretch(p, w), 0)
        for m in moves:
            self.assertEqual(lines(p, w, after(m, after(w, back(m))))[0], "same")

    def look_at_free(self, p, moves, told):
        u, v, sides = told[1:]
        for word in (u, v):
            self.assertTrue(is_word(word, len(moves)) and word == shortened(word))
        g, h = word_move(moves, u), word_move(moves, v)
        self.assertTrue(len(sides) == 4 and all(is_side(p, side) for side in sides))
        self.assertIsNone(judge_sides(p, g, h, sides))
        if p < 5:
            self.assertIsNone(slow_fault(p, g, h, sides))

    def test_each_kind(self):
        for p in PRIMES + (7,):
            for expected, moves in lists_of(p):
                self.assertEqual(self.look(p, moves), expected, (p, moves))
                self.assertEqual(list_kind(p, tuple(moves))[0], expected)

    def test_led_and_in_other_orders(self):
        for p in (2, 3, 97):
            for expected, moves in lists_of(p):
                for t in [(5, 1, 0, 3), (1, 2, p, 3 * p * p), (0, p, 1, 4)]:
                    self.assertEqual(self.look(p, led_by(t, moves)), expected)
                for some in permutations(moves[:2] + [STILL] + moves[2:3]):
                    self.assertEqual(list_kind(p, list(some))[0], expected)
                    same(self, judge_list(p, some, list_kind(p, some)), None)

    def test_pairs_of_moves(self):
        for p in (2, 3):
            words = set()
            some = [m for m in moves_at(p) if max(abs(part) for part in m) <= 1000][::2]
            for moves in product(some, repeat=2):
                words.add(self.look(p, list(moves)))
            self.assertEqual(words, {"ball", "pair", "end", "line", "free"})

    def test_ends_that_are_no_points(self):
        for moves in [[NO_POINTS], [NO_POINTS, after(NO_POINTS, NO_POINTS)], [NO_POINTS, MATE], [MATE, NO_POINTS],
                      [STILL, NO_POINTS, MATE], [MATE, after(NO_POINTS, MATE)], led_by((3, 1, 0, 7), [MATE, NO_POINTS])]:
            self.assertEqual(self.look(7, moves), "line")
        self.assertEqual(self.look(7, [NO_POINTS, UP]), "free")

    def test_lines_that_share_ends(self):
        # Three points are led round: each two of the lines between them share one.
        for p in PRIMES:
            for k in (1, 2, 9):
                self.assertEqual(self.look(p, [power((p, 0, 0, 1), k), ROUND]), "free")
                self.assertEqual(self.look(p, [ROUND, power((p, 0, 0, 1), -k)]), "free")
            # Here all three are led to one another, each two of them exchanged.
            self.assertEqual(self.look(p, [(p, 0, 0, 1), TURN, (1, -1, 0, -1)]), "free")
            # One of two ends is led to the other one, and this elsewhere.
            self.assertEqual(self.look(p, [(p, 0, 0, 1), (0, 1, -1, 5)]), "free")
            self.assertEqual(self.look(p, [(p, 0, 0, 1), (1, 1, 0, 1), (1, 0, 1, 1)]), "free")

    def test_long_shared_lines(self):
        for p, n in ((2, 4), (3, 3), (31, 1)):
            t = (p ** (2 * n), 1, p ** n, p ** n)
            moves = [(p, 0, 0, 1), move(*after(t, after((p, 0, 0, 1), back(t))))]
            self.assertEqual(self.look(p, moves), "free")

    def test_named(self):
        same(self, list_kind(2, [HALF, UP]), ("end", (1, 0)))
        same(self, list_kind(2, [OVER]), ("pair", ROOT, (1, (0, 1))))
        same(self, list_kind(3, [HALF, UP]), ("ball", ROOT))
        same(self, list_kind(2, [HALF, PULL])[0], "free")
        same(self, list_kind(2, [UP, TWICE]), ("end", (1, 0)))


class Judged(unittest.TestCase):
    def test_ball(self):
        same(self, judge_list(2, [UP, TURN], ("ball", ROOT)), None)
        same(self, judge_list(2, [STILL], ("ball", (7, (99, 1)))), None)
        same(self, judge_list(2, [UP, STILL], ("ball", (-7, (0, 1)))), None)
        same(self, judge_list(2, [UP, TURN], ("ball", (1, (0, 1)))), ("moved", 0))
        same(self, judge_list(2, [UP, TURN, HALF], ("ball", (-1, (0, 1)))), ("moved", 1))
        same(self, judge_list(2, [UP, TURN, HALF], ("ball", ROOT)), ("moved", 2))

    def test_pair(self):
        pair = ("pair", ROOT, (1, (0, 1)))
        same(self, judge_list(2, [OVER], pair), None)
        same(self, judge_list(2, [(1, 2, 0, 1), OVER], pair), None)
        same(self, judge_list(2, [(1, 2, 0, 1)], pair), ("rests",))
        same(self, judge_list(2, [STILL, STILL], pair), ("rests",))
        same(self, judge_list(2, [OVER, UP], pair), ("moved", 1))
        same(self, judge_list(2, [HALF, UP], pair), ("moved", 0))
        same(self, judge_list(2, [OVER], ("pair", (1, (0, 1)), ROOT)), ("form",))
        same(self, judge_list(2, [OVER], ("pair", ROOT, ROOT)), ("form",))
        same(self, judge_list(2, [OVER], ("pair", ROOT, (2, (0, 1)))), ("form",))
        same(self, judge_list(2, [OVER], ("pair", ROOT, (1, (1, 1)))), ("moved", 0))

    def test_end(self):
        same(self, judge_list(2, [UP, HALF], ("end", (1, 0))), None)
        same(self, judge_list(2, [HALF], ("end", (0, 1))), None)
        same(self, judge_list(2, [UP, HALF], ("end", (0, 1))), ("moved", 0))
        same(self, judge_list(2, [HALF, UP], ("end", (0, 1))), ("moved", 1))
        same(self, judge_list(3, [UP, HALF], ("end", (1, 0))), ("ahead",))
        same(self, judge_list(3, [UP, HALF], ("end", (0, 1))), ("moved", 0))
        same(self, judge_list(2, [STILL], ("end", (5, 7))), ("ahead",))
        same(self, judge_list(2, [OVER], ("end", (1, 0))), ("moved", 0))
        same(self, judge_list(2, [(0, 4, 1, 0)], ("end", (2, 1))), ("ahead",))

    def test_line(self):
        same(self, judge_list(2, [HALF, TURN], ("line", ((0, 1),))), None)
        same(self, judge_list(2, [HALF, TURN], ("line", ((0, -1),) * 5)), None)
        same(self, judge_list(2, [HALF, TURN], ("line", ((1, 1), (0, 1), (1, 1), (0, -1), (0, -1)))), None)
        same(self, judge_list(2, [HALF, TURN], ("line", ((1, 1),))), ("moved", 0))
        same(self, judge_list(2, [TURN, HALF], ("line", ((0, 1),))), ("moved", 1))
        same(self, judge_list(2, [HALF, TURN], ("line", ())), ("rests",))
        same(self, judge_list(2, [HALF, TURN], ("line", ((1, 1), (1, 1)))), ("rests",))
        same(self, judge_list(3, [HALF, TURN], ("line", ((0, 1),))), ("rests",))
        same(self, judge_list(2, [UP], ("line", ((0, 1),))), ("rests",))
        same(self, judge_list(2, [HALF], ("line", ((0, 1),))), ("ahead",))
        same(self, judge_list(2, [HALF, (3, 0, 0, 1)], ("line", ((0, 1),))), ("ahead",))
        same(self, judge_list(2, [HALF, UP], ("line", ((0, 1),))), ("moved", 1))
        same(self, judge_list(2, [UP, HALF], ("line", ((1, 1),))), ("moved", 0))
        same(self, judge_list(7, [NO_POINTS], ("line", ((0, -1),))), None)
        same(self, judge_list(7, [NO_POINTS, MATE], ("line", ((0, 1), (1, 1)))), ("moved", 0))
        same(self, judge_list(2, [HALF, TURN], ("line", ((0, 1),) * 200)), None)

    def test_free(self):
        u, v = ((0, 1),), ((1, 1),)
        self.assertIsNone(judge_sides(2, HALF, PULL, SIDES))
        same(self, judge_list(2, [HALF, PULL], ("free", u, v, SIDES)), None)
        same(self, judge_list(2, [PULL, HALF], ("free", v, u, SIDES)), None)
        same(self, judge_list(2, [HALF, PULL, UP], ("free", u, v, SIDES)), None)
        same(self, judge_list(2, [STILL, HALF, PULL], ("free", ((1, 1), (0, 1)), ((2, 1), (0, -1)), SIDES)), None)
        for value in [0, None, (), SIDES[:3], list(SIDES), SIDES + SIDES, [SIDES], True, {0: 1}, (ROOT,) * 4]:
            same(self, judge_list(2, [HALF, PULL], ("free", u, v, value)), ("sides", ("form",)))
        same(self, judge_list(2, [HALF, PULL], ("free", u, v, SIDES[1:2] + SIDES[1:])), ("sides", ("meet", 0, 1)))
        same(self, judge_list(2, [HALF, PULL], ("free", v, u, SIDES)), ("sides", ("led", 0)))
        same(self, judge_list(2, [HALF, PULL], ("free", u, u, SIDES)), ("sides", ("led", 1)))
        same(self, judge_list(2, [HALF, PULL], ("free", (), v, SIDES)), ("sides", ("led", 0)))
        same(self, judge_list(2, [UP, TURN], ("free", u, v, SIDES)), ("sides", ("led", 0)))

    def test_near_to_told_ones(self):
        """Kinds of one list, judged of another one; and balls, points and sides beside the told ones."""
        faults = set()
        for p in (2, 3):
            lists = lists_of(p)
            told = [list_kind(p, moves) for _, moves in lists]
            told += [(value[0],) + tuple(neighbours(p, ball)[-1] for ball in value[1:]) for value in told if value[0] in ("ball", "pair")]
            told += [("line", word) for word in [(), ((0, 1),), ((0, 1), (0, -1)), ((0, 1), (0, 1))]]
            told += [("end", point) for point in [(1, 0), (0, 1), (1, 1), (-1, 1)]]
            for (_, moves), value in product(lists, told):
                found = unchanged(self, judge_list, p, moves, value)
                same(self, found, self.slow_judge(p, moves, value))
                faults.add((value[0], found and found[0]))
        self.assertLessEqual({("ball", "moved"), ("pair", "moved"), ("pair", "rests"), ("end", "moved"), ("end", "ahead"),
                              ("line", "moved"), ("line", "rests"), ("line", "ahead"), ("free", "sides"), ("free", None),
                              ("ball", None), ("pair", None), ("end", None), ("line", None), ("line", "form"), ("pair", "form")}, faults)

    def slow_judge(self, p, moves, value):
        word, told = value[0], value[1:]
        wrong = []
        if word == "pair" and told[1] not in neighbours(p, told[0])[1:]:
            return ("form",)
        if word in ("line", "free") and not all(is_word(part, len(moves)) for part in told[:2 if word == "free" else 1]):
            return ("form",)
        if word in ("ball", "pair"):
            wrong = [k for k, m in enumerate(moves) if sorted(led(p, m, ball) for ball in told) != sorted(told)]
        elif word == "end":
            wrong = [k for k, m in enumerate(moves) if led_point(m, told[0]) != told[0]]
        elif word == "line":
            w = word_move(moves, told[0])
            wrong = [k for k, m in enumerate(moves) if after(m, w) not in (after(w, m), after(back(w), m))]
        if wrong:
            return ("moved", wrong[0])
        if word == "pair" and all(led(p, m, told[0]) == told[0] for m in moves):
            return ("rests",)
        if word == "line" and stretch(p, word_move(moves, told[0])) == 0:
            return ("rests",)
        if word == "free":
            fault = judge_sides(p, word_move(moves, told[0]), word_move(moves, told[1]), told[2])
            return fault and ("sides", fault)
        right = list_kind(p, moves)[0]
        order = ["ball", "pair", "end", "line", "free"]
        return ("ahead",) if order.index(right) < order.index(word) else None

    def test_form(self):
        u, v = ((0, 1),), ((1, 1),)
        values = NEVER + [("ball",), ("ball", ROOT, ROOT), ("ball", 0), ["ball", ROOT], ("end", 0), ("end", (2, 4)), ("end", (0, 0)),
                          ("end", (-1, 0)), ("end",), ("line", 0), ("line", [(0, 1)]), ("line", ((2, 1),)), ("line", ((0, 0),)),
                          ("line", ((0, True),)), ("line", ((False, 1),)), ("free", u, v), ("free", u, ((2, 1),), SIDES),
                          ("free", None, v, SIDES), ("free", u, [v[0]], SIDES), ("free", u, v, SIDES, 0), ("pair", ROOT), ("whole", u),
                          ("stretches", u), ("pair", (1, (1, 1)), ROOT), ("ball", (0, (1, 3))), ("ball", (True, (0, 1)))]
        for value in [("ball", ROOT), ("pair", ROOT, (1, (0, 1))), ("end", (1, 0))]:
            values += broken(value)
        for letter in broken((0, 1)):
            values += [("line", u + (letter,)), ("free", (letter,), v, SIDES), ("free", u, (letter,) + v, SIDES)]
        for value in values:
            for moves in ([HALF, PULL], [UP, TURN], [STILL, STILL]):
                same(self, unchanged(self, judge_list, 2, moves, value), ("form",))


if __name__ == "__main__":
    unittest.main()
