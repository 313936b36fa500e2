import unittest

from ballmoves.balls import about, is_ball, neighbours
from ballmoves.kinds import judge_kind, kind, stretch
from ballmoves.leads import led
from ballmoves.moves import after, back, power, size, sum_of
from ballmoves.roads import steps, towards
from brute import ROOT, tree
from some_moves import moves_at, some_balls
from test_moves import STILL
from values import GREAT, NEVER, broken, same, unchanged

NEAR = {2: list(tree(2, ROOT, 5)), 3: list(tree(3, ROOT, 3)), 5: list(tree(5, ROOT, 2)), 97: list(tree(97, ROOT, 1))}
WORDS = ("keeps", "exchanges", "stretches")


def led_steps(p, m, ball):
    return steps(p, ball, led(p, m, ball))


def counted(p, n):
    return 10 ** 9 if n == 0 else len([k for k in range(1, 400) if n % p ** k == 0])


class Kinds(unittest.TestCase):
    def test_kinds_of_all_sorts(self):
        for p in NEAR:
            told = [kind(p, m)[0] for m in moves_at(p)]
            for word in WORDS:
                self.assertGreaterEqual(told.count(word), 4, (p, word))

    def test_ball_by_ball(self):
        for p, balls in NEAR.items():
            for m in moves_at(p):
                found = unchanged(self, kind, p, m)
                least = min(led_steps(p, m, ball) for ball in balls)
                self.assertTrue(all(is_ball(p, ball) for ball in found[1:] if not isinstance(ball, int)))
                if found[0] == "keeps":
                    self.assertEqual((len(found), led(p, m, found[1])), (2, found[1]))
                    self.assertEqual(least % 2, 0)
                elif found[0] == "exchanges":
                    _, u, v = found
                    self.assertEqual((led(p, m, u), led(p, m, v), about(p, v)), (v, u, u))
                    self.assertEqual(least % 2, 1)
                else:
                    _, length, ball = found
                    self.assertEqual(led_steps(p, m, ball), length)
                    self.assertGreaterEqual(least, length)
                    self.assertTrue(type(length) is int and length > 0)

    def test_stretch(self):
        for p in NEAR:
            for m in moves_at(p):
                k, j = counted(p, size(m)), counted(p, sum_of(m))
                same(self, stretch(p, m), max(0, k - 2 * j))
                told = kind(p, m)
                self.assertEqual(stretch(p, m), told[1] if told[0] == "stretches" else 0)
                self.assertEqual(told[0] == "exchanges", k <= 2 * j and k % 2 == 1)

    def test_named_kinds(self):
        same(self, kind(2, STILL)[0], "keeps")
        same(self, kind(97, (0, 97, 1, 0)), ("exchanges", ROOT, (1, (0, 1))))
        same(self, kind(2, (0, 1, 1, 0))[0], "keeps")
        same(self, kind(2, (0, 8, 1, 0)), ("exchanges", (1, (0, 1)), (2, (0, 1))))
        same(self, kind(2, (0, 1, -32, 0)), ("exchanges", (-3, (0, 1)), (-2, (0, 1))))
        same(self, stretch(2, (1, 0, 0, 2 ** 19)), 19)
        same(self, stretch(2, (2 ** 19, 2 ** 18 + 1, 0, 1)), 19)
        same(self, stretch(3, (1, 0, 0, 2 ** 19)), 0)
        same(self, kind(2, (1, 0, 0, 2 ** 19))[:2], ("stretches", 19))
        same(self, stretch(97, (97, 1, 0, 97 ** 2)), 1)

    def test_what_the_package_made(self):
        for p in (2, 97):
            m = power((p, 1, 0, 1), 20)
            self.assertEqual((stretch(p, m), stretch(p, power(m, 20)), stretch(p, back(m))), (20, 400, 20))
            self.assertIsNone(judge_kind(p, power(m, -20), kind(p, power(m, -20))))
            turned = after(m, after((0, p, 1, 0), back(m)))
            self.assertEqual(kind(p, turned)[1:], (led(p, m, ROOT), led(p, m, (1, (0, 1)))))


class Judged(unittest.TestCase):
    def test_told_ones(self):
        for p in (2, 3, 5, 7, 97):
            for m in moves_at(p):
                self.assertIsNone(unchanged(self, judge_kind, p, m, kind(p, m)))

    def test_any_ball(self):
        for p, balls in NEAR.items():
            for m in moves_at(p):
                right = kind(p, m)
                for ball in balls[:30] + some_balls(p):
                    if right[0] == "keeps":
                        expected = None if led(p, m, ball) == ball else ("balls",)
                        same(self, judge_kind(p, m, ("keeps", ball)), expected)
                    if right[0] == "stretches":
                        expected = None if led_steps(p, m, ball) == right[1] else ("balls",)
                        same(self, judge_kind(p, m, right[:2] + (ball,)), expected)

    def test_exchanged_balls(self):
        for p in NEAR:
            for m in moves_at(p):
                right = kind(p, m)
                if right[0] != "exchanges":
                    continue
                _, u, v = right
                # Two balls further out are exchanged, too, and are no neighbours.
                out = [ball for ball in neighbours(p, u) if ball != v][0]
                for one, other in [(v, u), (u, u), (v, v), (out, led(p, m, out)), (led(p, m, out), out), (out, u)]:
                    same(self, judge_kind(p, m, ("exchanges", one, other)), ("balls",))

    def test_words_and_lengths(self):
        for p in (2, 3):
            for m in moves_at(p):
                right = kind(p, m)
                for ball in (ROOT, (3, (1, 1)), right[-1]):
                    for value in [("keeps", ball), ("exchanges", ball, ball), ("stretches", 0, ball), ("stretches", -1, ball),
                                  ("stretches", 1, ball), ("stretches", GREAT, ball)]:
                        found = judge_kind(p, m, value)
                        if value[0] != right[0]:
                            same(self, found, ("word", right[0]))
                        elif value[0] == "stretches" and value[1] != right[1]:
                            # The length is looked at ahead of the ball.
                            same(self, found, ("length", right[1]))

    def test_far_balls(self):
        for p in (2, 97):
            for n in (300, -300):
                ball = (n, (0, 1))
                self.assertIsNone(judge_kind(p, (p, 0, 0, 1), ("stretches", 1, ball)))
                self.assertIsNone(judge_kind(p, (-1, 0, 0, 1), ("keeps", ball)))
                same(self, judge_kind(p, (0, 1, 1, 0), ("keeps", ball)), ("balls",))
                same(self, judge_kind(p, (p, 1, 0, 1), ("stretches", 1, ball)), None if n < 0 else ("balls",))
            far = towards(p, ROOT, (1, 1 - p), 700)
            self.assertIsNone(judge_kind(p, (p, 1, 0, 1), ("stretches", 1, led(p, (p, 1, 0, 1), far))))

    def test_form(self):
        papers = [("keeps", ROOT), ("exchanges", ROOT, (1, (0, 1))), ("stretches", 1, ROOT), ("keeps", (0, (1, 2)))]
        for m in [STILL, (2, 0, 0, 1), (0, 2, 1, 0)]:
            for paper in papers:
                for value in broken(paper):
                    same(self, unchanged(self, judge_kind, 2, m, value), ("form",))
            for value in NEVER + [ROOT, ("keeps",), ("keeps", ROOT, ROOT), ("exchanges", ROOT), ("stretches", ROOT), (),
                                  ("stretches", ROOT, 1), ("keeps", (1, (2, 1))), ("exchanges", ROOT, (0, (1, 3))),
                                  ("exchanges", (0, (1, 1)), ROOT), ("stretches", 1, (0, (-1, 2))), ("stretches", (1, 1), ROOT),
                                  ("moves", ROOT), ("ball", ROOT), ([], ROOT), ({}, ROOT), ("keeps", None)]:
                same(self, unchanged(self, judge_kind, 2, m, value), ("form",))


if __name__ == "__main__":
    unittest.main()
