import unittest

from ballmoves.balls import neighbours
from ballmoves.kept import line_from, on_line
from ballmoves.kinds import stretch
from ballmoves.leads import led
from ballmoves.lines import lines
from ballmoves.many import grown, judge_many, many_sides, outside, spelled_many, tight_many, told_over, word_of
from ballmoves.moves import after, back, power
from ballmoves.roads import are_apart, is_side, on_side
from ballmoves.sides import four_sides, judge_sides
from ballmoves.spelling import spelled, tight
from ballmoves.words import is_word, shortened, word_move, words
from brute import ROOT, tree
from some_moves import some_balls
from test_lines import PRIMES, balls_of, stretching_at
from test_moves import MOVES, STILL
from test_shorten import between
from test_sides import pairs_at, slow_fault_of_many
from test_spelling import groups_at
from values import NEVER, broken, same, unchanged

HALF, PULL, UP = (1, 0, 0, 2), (1, 3, -1, 5), (1, 1, 0, 1)
ONE = (1, (1, 1))
SIDES = ((ROOT, (1, (0, 1))), (ROOT, (-1, (0, 1))), (ONE, (2, (1, 1))), (ONE, (2, (3, 1))))


def have_sides(p, moves):
    """Whether a list has many sides, looked for among the rows of balls on its lines."""
    if not all(stretch(p, m) for m in moves):
        return False
    rows = []
    for m in moves:
        line, length = balls_of(p, m, 40), stretch(p, m)
        rows.append([line[k:k + length] for k in range(len(line) - length + 1)])
    for k, m in enumerate(moves):
        needed = set()
        for other in moves[:k] + moves[k + 1:]:
            told = lines(p, m, other)
            if told[0] in ("same", "end"):
                return False
            needed |= {told[2]} if told[0] == "apart" else {ball for ball in balls_of(p, m, 40) if on_line(p, other, ball)}
        if not any(needed <= set(row) for row in rows[k]):
            return False
    return True


def lists_at(p):
    """Lists of two to five moves that stretch, with many sides and without."""
    some = stretching_at(p)
    groups = groups_at(p)
    found = [[g, h] for g, h, _ in groups[::3]] + [list(pair) for pair in pairs_at(p)[::9]]
    for g, h, sides in groups[::4]:
        for n in (2, 3, 5):
            found.append([word_move([g, h], word) for word in grown(p, g, h, sides, n)[0]])
        found.append([after(g, h), after(h, g), g])
        found.append([power(g, 3), word_move([g, h], ((1, 1), (1, 1), (0, 1), (1, -1), (1, -1))), some[0]])
    found += [some[k:k + 3] for k in range(0, len(some) - 3, 5)]
    return found


class ManySides(unittest.TestCase):
    def test_by_rows(self):
        for p in PRIMES:
            counts = {}
            for moves in lists_at(p):
                found = unchanged(self, many_sides, p, moves)
                same(self, many_sides(p, tuple(moves)), found)
                self.assertEqual(found is not None, have_sides(p, moves), (p, moves))
                counts[found is None] = counts.get(found is None, 0) + 1
                if found is not None:
                    self.assertTrue(type(found) is tuple and len(found) == 2 * len(moves))
                    same(self, unchanged(self, judge_many, p, moves, found), None)
                    self.assertIsNone(judge_many(p, tuple(moves), found))
                    if p == 2 and len(moves) < 5:
                        self.assertIsNone(slow_fault_of_many(p, moves, found))
            self.assertTrue(min(counts[True], counts[False]) > 4)

    def test_two_as_four_sides(self):
        for p in PRIMES:
            for g, h in pairs_at(p)[::2]:
                self.assertEqual(many_sides(p, [g, h]) is None, four_sides(p, g, h) is None)

    def test_shared_by_two_others(self):
        # The line from 0 to far shares 2 steps with each other one, and from the first one's to the other one's are 5.
        for p in (2, 3):
            t = (p, 0, 0, 1)
            one, other = between(p, 1, 7), after(power(t, 3), after(between(p, 1, 7), power(t, -3)))
            for k in range(1, 9):
                for moves in ([power(t, k), one, other], [one, power(t, -k), other], [other, power(t, k), one]):
                    self.assertEqual(many_sides(p, moves) is not None, k > 5)
                    self.assertEqual(have_sides(p, moves), k > 5)
                self.assertEqual(many_sides(p, [power(t, k), one]) is not None, k > 2)

    def test_none(self):
        for moves in [[HALF, UP], [STILL, HALF], [HALF, PULL, STILL], [HALF, HALF], [HALF, back(HALF)], [HALF, (2, -1, 0, 1)],
                      [HALF, PULL, after(HALF, PULL)], [(0, 2, 1, 0), HALF], [HALF, (1, 0, 0, 4), PULL]]:
            same(self, unchanged(self, many_sides, 2, moves), None)
        self.assertIsNotNone(many_sides(2, [HALF, PULL]))


class Judged(unittest.TestCase):
    def test_changed_ones(self):
        faults = set()
        for moves in lists_at(2):
            found = many_sides(2, moves)
            if found is None or len(moves) > 3:
                continue
            values = [found[2:] + found[:2], found[1:] + found[:1], (found[0],) * len(found)]
            for k in range(len(found)):
                u, v = found[k]
                for side in [(v, u), (v, neighbours(2, v)[-1]), (u, neighbours(2, u)[0]), found[-1]]:
                    if is_side(2, side):
                        values.append(found[:k] + (side,) + found[k + 1:])
            for value in values:
                expected = slow_fault_of_many(2, moves, value)
                same(self, unchanged(self, judge_many, 2, moves, value), expected)
                faults.add(expected and expected[:2])
        self.assertLessEqual({None, ("led", 0), ("led", 1), ("led", 2), ("meet", 0), ("meet", 3)}, faults)

    def test_other_moves(self):
        for g in (HALF, PULL, STILL, back(HALF), (1, 0, 0, 4), UP, (0, 2, 1, 0)):
            for h in (HALF, PULL, STILL, back(PULL), power(PULL, 2)):
                same(self, judge_many(2, [g, h], SIDES), slow_fault_of_many(2, [g, h], SIDES))
                same(self, judge_many(2, [g, h], SIDES), judge_sides(2, g, h, SIDES))

    def test_first_faults(self):
        moves, many = grown(2, HALF, PULL, SIDES, 3)
        moves = [word_move([HALF, PULL], word) for word in moves]
        same(self, judge_many(2, moves, many), None)
        same(self, judge_many(2, moves[::-1], many), ("led", 0))
        same(self, judge_many(2, [moves[0], moves[2], moves[1]], many), ("led", 1))
        same(self, judge_many(2, [moves[0], moves[1], STILL], many), ("led", 2))
        same(self, judge_many(2, moves, many[:5] + many[:1]), ("meet", 0, 5))
        same(self, judge_many(2, [STILL] * 3, many[:3] + (many[2], many[2], many[4])), ("meet", 2, 3))
        same(self, judge_many(2, moves, many[:4]), ("form",))
        same(self, judge_many(2, moves, many + many[:1]), ("form",))
        same(self, judge_many(2, moves[:2], many), ("form",))

    def test_form(self):
        for moves in ([HALF, PULL], [STILL, STILL]):
            for value in broken(SIDES) + NEVER + [SIDES[:3], SIDES[:2], SIDES + SIDES[:2], ((ROOT, ROOT),) * 4, (ROOT,) * 4, SIDES[0]]:
                same(self, unchanged(self, judge_many, 2, moves, value), ("form",))
        for value in (SIDES, SIDES + SIDES[:1], SIDES + (None, None)):
            same(self, judge_many(2, [HALF, PULL, UP], value), ("form",))


class Tight(unittest.TestCase):
    def test_as_of_two(self):
        for p in (2, 3, 97):
            for g, h, sides in groups_at(p):
                same(self, unchanged(self, tight_many, p, [g, h], sides), tight(p, g, h, sides))
                for ball in some_balls(p):
                    same(self, unchanged(self, spelled_many, p, [g, h], sides, ball), spelled(p, g, h, sides, ball))

    def test_against_led_balls(self):
        for moves in lists_at(2) + [[power(HALF, 5), power(PULL, 4), after(PULL, after(power(HALF, 3), back(PULL)))]]:
            sides = many_sides(2, moves)
            if sides is not None:
                found = tight_many(2, moves, sides)
                self.assertEqual((type(found), found[::2]), (tuple, sides[::2]))
                self.assertIsNone(judge_many(2, moves, found))
                for k, m in enumerate(moves):
                    u, v = found[2 * k]
                    same(self, found[2 * k + 1], (led(2, m, v), led(2, m, u)))
                    for ball in tree(2, u, 4):
                        self.assertEqual(not on_side(2, (u, v), ball), on_side(2, found[2 * k + 1], led(2, m, ball)))


def groups_of(p):
    return [(moves, many_sides(p, moves)) for moves in lists_at(p)[::2] if many_sides(p, moves) is not None]


class Spelled(unittest.TestCase):
    def test_there_and_back(self):
        for p in (2, 3, 5, 97):
            for moves, sides in groups_of(p):
                tights = tight_many(p, moves, sides)
                for ball in some_balls(p):
                    word, rest = unchanged(self, spelled_many, p, moves, sides, ball)
                    self.assertTrue(is_word(word, len(moves)) and shortened(word) == word)
                    self.assertFalse([side for side in tights if on_side(p, side, rest)])
                    same(self, led(p, word_move(moves, word), rest), ball)
                    for other in words(len(moves), 2)[::5]:
                        same(self, spelled_many(p, tuple(moves), sides, led(p, word_move(moves, other), rest)), (other, rest))

    def test_outside(self):
        seen = set()
        for p in (2, 3):
            near = tree(p, ROOT, 8 if p == 2 else 5)
            for moves, sides in groups_of(p):
                for some in (sides, tight_many(p, moves, sides), sides[:3], sides[::-1]):
                    found = unchanged(self, outside, p, some)
                    self.assertFalse([side for side in some if on_side(p, side, found)])
                    free = [ball for ball in near if not any(on_side(p, side, ball) for side in some)]
                    least = min(near[ball] for ball in free)
                    self.assertEqual([ball for ball in free if near[ball] == least], [found])
                    seen.add(found == ROOT)
        self.assertEqual(seen, {True, False})

    def test_outside_of_all_three(self):
        same(self, outside(2, ((ROOT, (1, (0, 1))), (ROOT, (-1, (0, 1))), (ROOT, ONE))), ROOT)
        same(self, outside(2, (((3, (0, 1)), (2, (0, 1))), ((3, (0, 1)), (4, (0, 1))), ((3, (0, 1)), (4, (8, 1))))), (3, (0, 1)))
        same(self, outside(2, SIDES), ROOT)


class WordOf(unittest.TestCase):
    def test_words(self):
        for p in (2, 3, 97):
            for moves, sides in groups_of(p)[::2]:
                for word in words(len(moves), 3)[::4] + [((0, 1), (1, -1), (0, -1)) * 4, ((1, 1),) * 12]:
                    same(self, unchanged(self, word_of, p, moves, sides, word_move(moves, word)), shortened(word))

    def test_no_words(self):
        for m in MOVES + [(1, 0, 0, -1), (3, 0, 0, 1), after(HALF, UP), (2, 0, 0, 3), (999999, 5, 7, 1)]:
            found = word_of(2, [HALF, PULL], SIDES, m)
            near = {word_move([HALF, PULL], word): word for word in words(2, 5)}
            if found is None:
                self.assertNotIn(m, near)
            else:
                same(self, word_move([HALF, PULL], found), m)
        for m in (UP, (3, 0, 0, 1), (0, 1, 1, 0), (1, 0, 0, -1), (-1 + 2, 0, 0, 6), (0, 2, 1, 0)):
            same(self, word_of(2, [HALF, PULL], SIDES, m), None)
        same(self, word_of(2, [HALF, PULL], SIDES, STILL), ())
        # The same ball is led as by a word, but not all others.
        same(self, word_of(2, [HALF, PULL], SIDES, after(HALF, (1, 0, 0, 3))), None)

    def test_of_powers(self):
        moves, sides = [power(HALF, 2), PULL], SIDES
        for k in range(-6, 7):
            expected = ((0, 1 if k > 0 else -1),) * (abs(k) // 2) if k % 2 == 0 else None
            same(self, word_of(2, moves, sides, power(HALF, k)), expected)

    def test_told_over(self):
        moves = [HALF, PULL]
        some = words(2, 3)[::3]
        others = [word_move(moves, word) for word in some]
        same(self, unchanged(self, told_over, 2, moves, SIDES, others), ("words", some))
        same(self, told_over(2, tuple(moves), SIDES, tuple(others)), ("words", some))
        same(self, told_over(2, moves, SIDES, []), ("words", []))
        same(self, told_over(2, moves, SIDES, others[:4] + [UP] + others[4:] + [(3, 0, 0, 1)]), ("strange", 4))
        same(self, told_over(2, moves, SIDES, [UP]), ("strange", 0))
        told_over(2, moves, SIDES, others)[1].append(5)
        same(self, told_over(2, moves, SIDES, others), ("words", some))

    def test_lists_that_make_the_same(self):
        one, other = [HALF, PULL], [after(HALF, PULL), back(PULL)]
        sides = many_sides(2, [power(HALF, 1), PULL])
        same(self, told_over(2, one, sides, other), ("words", [((0, 1), (1, 1)), ((1, -1),)]))


class Grown(unittest.TestCase):
    def test_judged(self):
        for p in (2, 3, 5, 97):
            for g, h, sides in groups_at(p)[::2] + groups_at(p)[-3:]:
                for n in range(2, 6):
                    found = unchanged(self, grown, p, g, h, sides, n)
                    self.assertEqual((type(found), type(found[0]), type(found[1])), (tuple, list, tuple))
                    expected = [((1, 1),) * k + ((0, 1),) + ((1, -1),) * k for k in range(n)]
                    same(self, found[0], expected)
                    moves = [word_move([g, h], word) for word in expected]
                    same(self, judge_many(p, moves, found[1]), None)
                    same(self, found[1][:2], tight(p, g, h, sides)[:2])
                    for k in range(n):
                        same(self, found[1][2 * k:2 * k + 2],
                             tuple((led(p, power(h, k), u), led(p, power(h, k), v)) for u, v in found[1][:2]))

    def test_new_lists(self):
        grown(2, HALF, PULL, SIDES, 2)[0].append(0)
        self.assertEqual(len(grown(2, HALF, PULL, SIDES, 2)[0]), 2)

    def test_words_of_words(self):
        words_of, many = grown(2, HALF, PULL, SIDES, 3)
        moves = [word_move([HALF, PULL], word) for word in words_of]
        for word in words(3, 2):
            same(self, word_of(2, moves, many, word_move(moves, word)), word)
        same(self, told_over(2, moves, many, [HALF, PULL]), ("strange", 1))
        self.assertTrue(all(are_apart(2, one, other) for one in many for other in many if one != other))
        self.assertEqual(line_from(2, HALF, ROOT, 1)[1], SIDES[1][1])


if __name__ == "__main__":
    unittest.main()
