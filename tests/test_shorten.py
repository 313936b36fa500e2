import unittest
from itertools import product

from ballmoves.errors import NotStretching
from ballmoves.kinds import kind, stretch
from ballmoves.lines import lines
from ballmoves.moves import after, back, power
from ballmoves.shorten import changed, judge_shorten, shorten
from ballmoves.sides import four_sides, judge_sides
from ballmoves.words import word_move, words
from brute import ROOT
from test_lines import PRIMES, stretching_at
from test_moves import STILL
from test_sides import pairs_at, slow_fault
from values import NEVER, broken, same, unchanged

G, H, LONG, NEXT, TWICE = (2, 0, 0, 1), (5, -3, 1, 1), (14, 4, -4, 31), (1, 1, 0, 1), (0, 2, 1, 0)
SIDES = ((ROOT, (-1, (0, 1))), (ROOT, (1, (0, 1))), ((1, (1, 1)), (2, (3, 1))), ((1, (1, 1)), (2, (1, 1))))
FREE = ("free", SIDES)


def taken_out(word):
    """A word shortened, one pair after the other."""
    for k in range(len(word) - 1):
        if word[k][0] == word[k + 1][0] and word[k][1] == -word[k + 1][1]:
            return taken_out(word[:k] + word[k + 2:])
    return word


def slow_changed(changes):
    """The two words behind changes, by the words of the document."""
    found = {0: ((0, 1),), 1: ((1, 1),)}
    for k, s in changes:
        other = found[1 - k] if s == 1 else tuple((i, -t) for i, t in found[1 - k][::-1])
        found[k] = taken_out(other + found[k])
    return (found[0], found[1])


def between(p, n, times=1):
    """A move that stretches by so much along the line between p ** n and p ** -n."""
    t = (p ** (2 * n), 1, p ** n, p ** n)
    return after(t, after(power((p, 0, 0, 1), times), back(t)))


def long_pairs():
    """Pairs whose lines share a number of steps, with alike and unlike stretches, more and less than that."""
    found = []
    for p, n in ((2, 1), (2, 3), (3, 2), (97, 1)):
        for i, j in product((1, 2, 3, 5, 7, 8), repeat=2):
            found.append((p, power((p, 0, 0, 1), i), between(p, n, j if i % 2 else -j)))
    return found + [(2, power(G, i), between(2, 6, j)) for i, j in ((7, 9), (9, 7), (-9, 7), (8, 6))]


class Changed(unittest.TestCase):
    def test_lists_of_changes(self):
        letters = [(k, s) for k in (0, 1) for s in (1, -1)]
        lists = [some for many in range(5) for some in product(letters, repeat=many)]
        lists += [((0, 1), (1, 1)) * 6, ((1, -1), (0, 1)) * 6, ((0, -1), (1, 1)) * 6, ((0, 1),) * 12, ((1, -1),) * 12]
        for some in lists:
            expected = slow_changed(some)
            same(self, unchanged(self, changed, list(some)), expected)
            same(self, changed(some), expected)
            for word in expected:
                self.assertTrue(word != () and taken_out(word) == word)

    def test_named(self):
        same(self, changed([]), (((0, 1),), ((1, 1),)))
        same(self, changed([(0, 1)]), (((1, 1), (0, 1)), ((1, 1),)))
        same(self, changed([(0, -1)]), (((1, -1), (0, 1)), ((1, 1),)))
        same(self, changed([(1, 1), (1, -1)]), changed([]))
        same(self, changed([(0, -1), (1, 1), (1, -1), (0, 1)]), changed([]))
        same(self, changed([(1, 1), (1, 1)]), (((0, 1),), ((0, 1), (0, 1), (1, 1))))


class Shorten(unittest.TestCase):
    def look(self, p, g, h):
        """Looks at each change, and at the verdict, by the moves of the words."""
        found = unchanged(self, shorten, p, g, h)
        changes, verdict = found
        self.assertEqual((type(found), type(changes)), (tuple, list))
        same(self, judge_shorten(p, g, h, found), None)
        told = lines(p, g, h)
        if told[0] in ("same", "end"):
            same(self, found, ([], told))
            return told[0]
        for many in range(len(changes) + 1):
            moves = [word_move([g, h], word) for word in changed(changes[:many])]
            rests = [k for k in (0, 1) if stretch(p, moves[k]) == 0]
            if rests or four_sides(p, *moves) is not None:
                self.assertEqual(many, len(changes))
                self.look_at_verdict(p, moves, rests, verdict)
            else:
                self.look_at_change(p, moves, changes[many])
        return verdict[0]

    def look_at_verdict(self, p, moves, rests, verdict):
        if rests:
            same(self, verdict, ("rests", rests[0]))
            self.assertNotEqual(kind(p, moves[rests[0]])[0], "stretches")
        else:
            self.assertEqual(verdict[0], "free")
            self.assertIsNone(judge_sides(p, moves[0], moves[1], verdict[1]))

    def look_at_change(self, p, moves, change):
        lengths = [stretch(p, m) for m in moves]
        j = 1 if lengths[1] < lengths[0] else 0
        told = lines(p, *moves)
        self.assertEqual(told[0], "along")
        self.assertGreaterEqual(told[1], lengths[j])
        same(self, change, (1 - j, -1 if told[2] == 1 else 1))
        shorter = after(moves[j] if change[1] == 1 else back(moves[j]), moves[1 - j])
        self.assertLessEqual(stretch(p, shorter), lengths[1 - j] - lengths[j])
        if told[1] > lengths[j]:
            self.assertEqual(stretch(p, shorter), lengths[1 - j] - lengths[j])

    def test_many_pairs(self):
        for p in PRIMES:
            words_at = {self.look(p, g, h) for g, h in pairs_at(p)}
            self.assertEqual(words_at | {"rests"}, {"same", "end", "rests", "free"}, p)

    def test_long_pairs(self):
        found = {(self.look(p, g, h), len(shorten(p, g, h)[0]) > 2) for p, g, h in long_pairs()}
        self.assertEqual(found, set(product(("rests", "free"), (True, False))))

    def test_ball_by_ball(self):
        for p, g, h in [(2, G, LONG), (2, G, H), (2, power(G, 5), power(LONG, 5)), (2, power(G, 3), power(LONG, 8)),
                        (2, power(G, 3), between(2, 1, -2)), (3, (9, 0, 0, 1), between(3, 2, 3))]:
            changes, verdict = shorten(p, g, h)
            moves = [word_move([g, h], word) for word in changed(changes)]
            if verdict[0] == "free":
                self.assertIsNone(slow_fault(p, moves[0], moves[1], verdict[1]))
                for word in words(2, 4)[1:]:
                    self.assertGreater(stretch(p, word_move([g, h], word)), 0)
            else:
                self.assertIn(kind(p, moves[verdict[1]])[0], ("keeps", "exchanges"))

    def test_named(self):
        same(self, shorten(2, G, LONG), ([(1, -1)], ("rests", 1)))
        same(self, shorten(2, G, back(LONG)), ([(1, 1)], ("rests", 1)))
        same(self, shorten(2, power(G, 2), LONG), ([(0, -1), (1, -1)], ("rests", 1)))
        same(self, shorten(2, G, (2, -1, 0, 1)), ([], ("end", (1, 0))))
        same(self, shorten(2, G, G), ([], ("same", 1)))
        same(self, shorten(2, G, (1, 0, 0, 4)), ([], ("same", -1)))
        self.assertEqual(shorten(2, G, H)[0], [])
        self.assertEqual(shorten(2, G, H)[1][0], "free")

    def test_many_changes(self):
        changes, verdict = shorten(2, G, power(between(2, 12), 11))
        self.assertEqual((len(changes), verdict), (11, ("rests", 1)))
        self.assertEqual(changes[0][0], 1)
        changes = shorten(2, power(G, 13), power(between(2, 12), 8))[0]
        self.assertEqual([k for k, s in changes], [0, 1, 0, 1, 0, 1])

    def test_new_lists(self):
        for g, h in ((G, LONG), (G, H), (G, G)):
            shorten(2, g, h)[0].append(7)
            self.assertNotIn(7, shorten(2, g, h)[0])

    def test_not_stretching(self):
        calls = [shorten, lambda p, g, h: judge_shorten(p, g, h, None), lambda p, g, h: judge_shorten(p, g, h, ([], FREE))]
        for call in calls:
            for g, h, number in [(STILL, G, 0), (STILL, STILL, 0), (TWICE, NEXT, 0), (G, STILL, 1), (G, TWICE, 1), (G, NEXT, 1),
                                 ((3, 0, 0, 1), G, 0), (G, (3, 0, 0, 1), 1)]:
                with self.assertRaises(NotStretching) as caught:
                    unchanged(self, call, 2, g, h)
                same(self, caught.exception.number, number)


class Judged(unittest.TestCase):
    def test_told_ones(self):
        for p in (2, 3):
            for g, h in pairs_at(p)[::2]:
                changes, verdict = shorten(p, g, h)
                same(self, unchanged(self, judge_shorten, p, g, h, (changes, verdict)), None)
                same(self, unchanged(self, judge_shorten, p, g, h, (tuple(changes), verdict)), None)

    def test_other_changes(self):
        faults = set()
        lists = [some for many in range(3) for some in product(product((0, 1), (1, -1)), repeat=many)]
        for p, g, h in [(2, G, LONG), (2, G, H), (2, power(G, 2), LONG)] + long_pairs()[:40:7]:
            sides = [four_sides(p, g, h), SIDES]
            for some in lists:
                moves = [word_move([g, h], word) for word in slow_changed(some)]
                for k in (0, 1):
                    expected = ("stretches", k) if stretch(p, moves[k]) else None
                    same(self, unchanged(self, judge_shorten, p, g, h, (list(some), ("rests", k))), expected)
                    faults.add(expected)
                for told in sides:
                    if told is not None and (p == 2 or told != SIDES):
                        fault = judge_sides(p, moves[0], moves[1], told)
                        expected = None if fault is None else ("sides", fault)
                        same(self, judge_shorten(p, g, h, (some, ("free", told))), expected)
                        faults.add(expected and (expected[0], expected[1][0]))
        self.assertEqual(faults, {None, ("stretches", 0), ("stretches", 1), ("sides", "led")})

    def test_sides(self):
        same(self, judge_shorten(2, G, H, ([], FREE)), None)
        for value in [SIDES[1:] + SIDES[:1], (SIDES[0],) * 4, SIDES[:2] + SIDES[:1:-1], SIDES[1::-1] + SIDES[2:]]:
            fault = judge_sides(2, G, H, value)
            self.assertIsNotNone(fault)
            same(self, judge_shorten(2, G, H, ([], ("free", value))), ("sides", fault))
        same(self, judge_shorten(2, G, H, ([], ("free", SIDES[1:2] + SIDES[1:]))), ("sides", ("meet", 0, 1)))
        same(self, judge_shorten(2, G, H, ([(0, 1), (0, -1)], FREE)), None)
        same(self, judge_shorten(2, G, H, ([(0, 1)], FREE)), ("sides", ("led", 0)))

    def test_lines(self):
        shared = [("same", 1), ("same", -1), ("end", (1, 0)), ("end", (0, 1)), ("end", (-3, 7))]
        for g, h in [(G, G), (G, back(G)), (G, (2, -1, 0, 1)), (G, (2, 0, 1, 1)), (G, LONG), (G, H)]:
            told = lines(2, g, h)
            for verdict in shared:
                for changes in ([], [(0, 1)], ((1, -1),) * 12):
                    same(self, judge_shorten(2, g, h, (changes, verdict)), None if verdict == told else ("lines",))
        for verdict in [("rests", 0), ("rests", 1), FREE, ("free", (SIDES[0],) * 4)]:
            for g, h in [(G, G), (G, (2, -1, 0, 1))]:
                same(self, judge_shorten(2, g, h, ([], verdict)), ("lines",))
                same(self, judge_shorten(2, g, h, ([(1, -1)], verdict)), ("lines",))

    def test_form(self):
        values = NEVER + [([], None), ([],), ([], ("rests", 0), 0), ([], ["rests", 0]), (None, FREE), ((0, 1), FREE), ("", FREE),
                          ({}, FREE), ([], ("same", 0)), ([], ("same", True)), ([], ("rests", 2)), ([], ("rests", -1)),
                          ([], ("rests", False)), ([], ("rests", True)), ([], ("end", (0, 0))), ([], ("end", (2, 4))), ([], ("end", 0)),
                          ([], ("free", SIDES[:3])), ([], ("free", None)), ([], ("free", list(SIDES))), ([], ("free",) + SIDES),
                          ([], ("apart", 1)), ([], ("free", (ROOT,) * 4)), ([], ("same",)), ([], ("same", 1, 1)), ([], ()),
                          ([(0, 2)], FREE), ([(2, 1)], FREE), ([(0, 0)], FREE), ([(-1, 1)], FREE), ([[0, 1]], FREE), ([(0, 1, 1)], FREE),
                          ([(0, True)], FREE), ([(False, 1)], FREE), ([(True, -1)], FREE), ([(0, 1), None], FREE), ([0, 1], FREE)]
        for verdict in [FREE, ("rests", 1), ("same", 1), ("same", -1), ("end", (1, 0))]:
            values += [([], bad) for bad in broken(verdict)]
        for value in values:
            for g, h in [(G, H), (G, LONG), (G, G), (G, (2, -1, 0, 1))]:
                same(self, unchanged(self, judge_shorten, 2, g, h, value), ("form",))

    def test_by_the_prime(self):
        # A ball of 2 is none of 3.
        half = ((0, (1, 2)), (-1, (0, 1)))
        g, h = (3, 0, 0, 1), after((1, 1, 1, 2), after((3, 0, 0, 1), back((1, 1, 1, 2))))
        self.assertEqual(judge_shorten(3, g, h, ([], ("free", (half,) + SIDES[1:]))), ("form",))
        self.assertNotEqual(judge_shorten(2, G, H, ([], ("free", (half,) + SIDES[1:]))), ("form",))

    def test_great_words(self):
        changes = [(0, 1), (1, 1)] * 6
        self.assertEqual(len(changed(changes)[1]), 377)
        g, h = (524288, 1, 0, 3), (999999, 2, 8, 524288)
        same(self, judge_shorten(2, g, back(g), (changes, ("same", -1))), None)
        for other in (LONG, h):
            moves = [word_move([g, other], word) for word in changed(changes)]
            for k in (0, 1):
                expected = ("stretches", k) if stretch(2, moves[k]) else None
                same(self, judge_shorten(2, g, other, (changes, ("rests", k))), expected)


class ManyMoves(unittest.TestCase):
    def test_of_words(self):
        for p in (2, 5):
            some = stretching_at(p)[::5]
            for g, h in product(some, repeat=2):
                g, h = after(g, after(h, g)), after(h, g)
                if stretch(p, g) and stretch(p, h):
                    same(self, judge_shorten(p, g, h, shorten(p, g, h)), None)


if __name__ == "__main__":
    unittest.main()
