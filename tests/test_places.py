import unittest
from itertools import product

from ballmoves.balls import within
from ballmoves.kinds import kind, stretch
from ballmoves.leads import led
from ballmoves.moves import after, back, power
from ballmoves.places import gate_place, gates, half_steps, is_place, judge_place, keeps_place, place
from ballmoves.words import word_move
from brute import ROOT, around, tree
from some_moves import moves_at, some_balls
from test_moves import MOVES, STILL
from values import NEVER, broken, same, unchanged

START, PAIR = ("ball", ROOT), ("pair", ROOT, (1, (0, 1)))
UP, TURN, TWICE, OVER = (1, 1, 0, 1), (0, 1, 1, 0), (2, 0, 0, 1), (0, 2, 1, 0)


def ahead_of(p, told):
    """The places half a step from a place."""
    if told[0] == "pair":
        return [("ball", ball) for ball in told[1:]]
    ball = told[1]
    return [("pair", other, ball) if other[0] < ball[0] else ("pair", ball, other) for other in around(p, ball)]


def far_places(p, start, most):
    """All places at most so many half steps from a place, nearest ahead, each with its half steps."""
    found, edge = {start: 0}, [start]
    for k in range(most):
        edge = [told for old in edge for told in ahead_of(p, old) if told not in found]
        found.update({told: k + 1 for told in edge})
    return found


MOST = {2: 9, 3: 6, 5: 4, 97: 2}
NEAR = {p: far_places(p, START, MOST[p]) for p in MOST}


def leads_to_itself(p, m, told):
    balls = list(told[1:])
    there = [led(p, m, ball) for ball in balls]
    return there == balls or there == balls[::-1]


def some_lists(p):
    moves = moves_at(p)
    lists = [[m] for m in moves[::3]] + [moves[k:k + 5:2] for k in range(0, len(moves) - 5, 2)]
    lists += [[(0, 1, 1, 0), (1, p, 0, 1)], [(1, p * p, 0, 1), (1, 0, p * p, 1)], [(1, 0, p ** 3, 1), (1, 1, 0, p * p + 1)]]
    return lists + [[STILL, (0, p, 1, 0)], [(0, 1, -1, 0), (1, 1, 0, 1), (p + 1, 0, 0, 1)], [(0, p, 1, 0), (0, p ** 3, 1, 0)]]


class Places(unittest.TestCase):
    def test_is_place(self):
        for p in MOST:
            for told in list(NEAR[p])[:60]:
                same(self, unchanged(self, is_place, p, told), True)
                if told[0] == "pair":
                    same(self, is_place(p, ("pair", told[2], told[1])), False)
                    same(self, is_place(p, ("pair", told[1], told[1])), False)
            for ball in some_balls(p):
                same(self, is_place(p, ("ball", ball)), True)
                same(self, is_place(p, ("pair", ball, within(p, within(p, ball)[0])[0])), False)
                same(self, is_place(p, ("pair", within(p, ball)[0], within(p, ball)[1])), False)
        same(self, is_place(2, ("pair", ROOT, (1, (1, 1)))), True)
        same(self, is_place(2, ("pair", (1, (0, 1)), (2, (1, 1)))), False)
        same(self, is_place(3, ("pair", ROOT, (1, (2, 1)))), True)
        same(self, is_place(2, ("pair", ROOT, (1, (2, 1)))), False)

    def test_any_value(self):
        for value in NEVER + broken(START) + broken(PAIR) + broken(("ball", (1, (1, 2)))):
            same(self, unchanged(self, is_place, 2, value), False)
        for value in [ROOT, (ROOT, (1, (0, 1))), ("pair", ROOT), ("ball", ROOT, ROOT), ("ball",), ("pair",), ("ball", (0, (1, 3))),
                      ("ball", (1, (5, 2))), ("pair", ROOT, (1, (0, 1)), ROOT), ("pair", PAIR[1:]), ("place", ROOT), ([], ROOT)]:
            same(self, unchanged(self, is_place, 2, value), False)

    def test_half_steps(self):
        for p in MOST:
            for one in list(NEAR[p])[:24:3]:
                found = far_places(p, one, MOST[p])
                for other in list(found)[:200]:
                    same(self, unchanged(self, half_steps, p, one, other), found[other])
                    same(self, half_steps(p, other, one), found[other])

    def test_named_half_steps(self):
        same(self, half_steps(2, START, START), 0)
        same(self, half_steps(2, PAIR, PAIR), 0)
        same(self, half_steps(2, PAIR, ("pair", ROOT, (1, (1, 1)))), 2)
        same(self, half_steps(2, PAIR, ("pair", (-1, (0, 1)), ROOT)), 2)
        same(self, half_steps(2, PAIR, ("pair", (1, (1, 1)), (2, (1, 1)))), 4)
        same(self, half_steps(2, ("ball", (40, (0, 1))), ("ball", (-40, (0, 1)))), 160)
        same(self, half_steps(2, PAIR, ("ball", (40, (0, 1)))), 79)

    def test_keeps_place(self):
        for p in MOST:
            for m in moves_at(p):
                for told in list(NEAR[p])[:30]:
                    same(self, unchanged(self, keeps_place, p, m, told), leads_to_itself(p, m, told))

    def test_kept_and_exchanged_pairs(self):
        same(self, keeps_place(2, OVER, PAIR), True)
        same(self, keeps_place(2, OVER, ("ball", ROOT)), False)
        same(self, keeps_place(2, (1, 2, 0, 1), PAIR), True)
        same(self, keeps_place(2, UP, PAIR), False)
        same(self, keeps_place(2, UP, ("pair", (-1, (0, 1)), ROOT)), True)
        same(self, keeps_place(2, TWICE, PAIR), False)


class Gates(unittest.TestCase):
    def test_nearest_by_search(self):
        for p in MOST:
            for m in moves_at(p):
                found = unchanged(self, gate_place, p, m)
                kept = [told for told in NEAR[p] if leads_to_itself(p, m, told)]
                if stretch(p, m) > 0:
                    same(self, (found, kept), (None, []))
                elif half_steps(p, START, found) <= MOST[p]:
                    same(self, found, kept[0])
                    self.assertEqual(len([told for told in kept if NEAR[p][told] == NEAR[p][found]]), 1)
                else:
                    same(self, kept, [])
                    self.assertTrue(leads_to_itself(p, m, found))

    def test_only_place(self):
        for p in MOST:
            for m in moves_at(p):
                if kind(p, m)[0] == "exchanges":
                    same(self, gate_place(p, m), ("pair",) + kind(p, m)[1:])

    def test_far_gates(self):
        same(self, gate_place(2, (0, 2 ** 19, 1, 0)), ("pair", (9, (0, 1)), (10, (0, 1))))
        same(self, gate_place(2, (0, 1, 2 ** 18, 0)), ("ball", (-9, (0, 1))))
        same(self, gate_place(97, (97, 1, 0, 97)), ("ball", (-1, (0, 1))))

    def test_gates(self):
        for moves in [[UP, OVER, TWICE], [STILL], [TURN, (1, 1, 0, 4)]]:
            found = unchanged(self, gates, 2, moves)
            same(self, found, [gate_place(2, m) for m in moves])
            same(self, gates(2, tuple(moves)), found)
            found.clear()
            self.assertEqual(len(gates(2, moves)), len(moves))


class Place(unittest.TestCase):
    def test_by_search(self):
        for p in MOST:
            words = []
            for moves in some_lists(p):
                found = unchanged(self, place, p, moves)
                same(self, place(p, tuple(moves)), found)
                kept = [told for told in NEAR[p] if all(leads_to_itself(p, m, told) for m in moves)]
                words.append((found[0], len(found[1])))
                if found[0] == "stretches":
                    self.assertEqual(kept, [])
                    self.assert_first(p, moves, found[1])
                else:
                    self.assertTrue(all(leads_to_itself(p, m, found) for m in moves))
                    told = gates(p, moves)
                    far = max(half_steps(p, START, gate) for gate in told)
                    same(self, found, [gate for gate in told if half_steps(p, START, gate) == far][0])
                    if kept:
                        # It is the one of all kept ones that is nearest to the first ball.
                        same(self, found, kept[0])
            for word in [("ball", 2), ("pair", 2), ("stretches", 1), ("stretches", 2)]:
                self.assertIn(word, words, p)

    def assert_first(self, p, moves, word):
        many = range(len(moves))
        pairs = [((i, 1), (j, 1)) for i, j in product(many, many) if i < j]
        some = [((k, 1),) for k in many] + sorted(pairs)
        same(self, word, [told for told in some if stretch(p, word_move(moves, told)) > 0][0])

    def test_named_places(self):
        same(self, place(2, [STILL]), START)
        same(self, place(2, [UP, OVER, TWICE]), ("stretches", ((2, 1),)))
        same(self, place(2, [TWICE, back(TWICE)]), ("stretches", ((0, 1),)))
        # Both gates are equally far from the first ball, and neither is kept by the other move.
        same(self, place(2, [(0, 1, 4, 0), (0, 4, 1, 0)]), ("stretches", ((0, 1), (1, 1))))
        same(self, place(2, [STILL, (0, 1, 4, 0), STILL, (0, 4, 1, 0)]), ("stretches", ((1, 1), (3, 1))))
        same(self, place(2, [(0, 4, 1, 0), (4, 0, 0, 5), (0, 1, 4, 0)]), ("stretches", ((1, 1),)))

    def test_equally_far_gates(self):
        for p in (2, 3):
            t = (p * p, 1, 0, 1)
            moves = [STILL] + [after(t, after(m, back(t))) for m in [(0, 1, 1, 0), (0, 1, -1, 0), (0, 1, 1, 0)]]
            told = gates(p, moves)
            self.assertEqual((told[1], told[2], told[0]), (("ball", (2, (1, 1))), ("ball", (2, (1, 1))), START))
            same(self, place(p, moves), told[1])
            turned = [after(t, after((0, p, 1, 0), back(t))), (1, p ** 3, 0, 1)]
            same(self, place(p, turned), gates(p, turned)[0])

    def test_far_from_the_first_ball(self):
        # The gates are told by their steps from (0, (0, 1)), not from a neighbour of it.
        for p in (2, 3):
            for t in [(p, 0, 0, 1), (1, 0, 0, p), (p, 1, 0, 1), (p * p, 1, 0, 1), (1, 1, 0, p * p)]:
                turned = [after(t, after(m, back(t))) for m in [(1, 1, 0, 1), (1, 0, 1, 1)]]
                for moves in ([STILL] + turned, turned + [STILL], [turned[0], STILL, turned[1]]):
                    same(self, place(p, moves), ("ball", led(p, t, ROOT)))

    def test_least_numbers(self):
        moves = [STILL, (0, 2, 1, 0), (1, 1, 0, 1), (0, 2, 1, 0)]
        same(self, place(2, moves), ("stretches", ((1, 1), (2, 1))))
        same(self, place(2, moves[1:2] + moves[:1] + moves[3:1:-1]), ("stretches", ((0, 1), (3, 1))))
        same(self, place(2, moves + [(1, 0, 0, 2)]), ("stretches", ((4, 1),)))

    def test_far_moves(self):
        for p in (2, 97):
            t = power((p, 1, 0, 1), 20)
            for moves in some_lists(p)[::4]:
                turned = [after(t, after(m, back(t))) for m in moves]
                self.assertEqual(place(p, turned)[0] == "stretches", place(p, moves)[0] == "stretches")
                self.assertIsNone(judge_place(p, turned, place(p, turned)))


class Judged(unittest.TestCase):
    def test_told_ones(self):
        for p in MOST:
            for moves in some_lists(p):
                self.assertIsNone(unchanged(self, judge_place, p, moves, place(p, moves)))
                self.assertIsNone(judge_place(p, tuple(moves), place(p, moves)))

    def test_other_places(self):
        for p in MOST:
            for moves in some_lists(p):
                for told in list(NEAR[p])[:25]:
                    wrong = [k for k, m in enumerate(moves) if not leads_to_itself(p, m, told)]
                    same(self, judge_place(p, moves, told), ("move", wrong[0]) if wrong else None)

    def test_other_words(self):
        for moves in [[UP, OVER], [MOVES[7], MOVES[8]], [TWICE, UP], [STILL, STILL]]:
            for n in range(4):
                for word in product([(0, 1), (0, -1), (1, 1), (1, -1)], repeat=n):
                    expected = None if stretch(2, word_move(moves, word)) > 0 else ("still",)
                    same(self, judge_place(2, moves, ("stretches", word)), expected)
        same(self, judge_place(2, [TWICE], ("stretches", ((0, -1),) * 20)), None)
        same(self, judge_place(2, [TWICE], ("stretches", ((0, -1), (0, 1)) * 10)), ("still",))

    def test_form(self):
        for moves in [[UP, OVER], [TWICE], [STILL] * 5]:
            many = len(moves)
            for paper in [START, PAIR]:
                for value in broken(paper):
                    same(self, unchanged(self, judge_place, 2, moves, value), ("form",))
            for value in broken(("stretches", ((0, 1),))):
                if value not in [("stretches", ()), ("stretches", ((0, 1), (0, 1)))]:
                    same(self, unchanged(self, judge_place, 2, moves, value), ("form",))
            for value in NEVER + [("stretches", ((many, 1),)), ("stretches", ((0, 1), (many, -1))), ("stretches", ((-1, 1),)),
                                  ("stretches", (0, 1)), ("stretches", ((0, 2),)), ("stretches", [(0, 1)]), ("stretches",),
                                  ("stretches", (), ()), ("pair", PAIR[2], PAIR[1]), ("pair", ROOT, ROOT), ((0, 1),), ("ball", PAIR),
                                  ("stretches", 1, ROOT), ("stretches", ROOT), ("keeps", ROOT), ("pair", ROOT, (2, (0, 1)))]:
                same(self, unchanged(self, judge_place, 2, moves, value), ("form",))


if __name__ == "__main__":
    unittest.main()
