import unittest
from math import gcd

from ballmoves.errors import BadPoint, FarPoint
from ballmoves.points import fraction_of, is_point, point, point_of
from values import GREAT, NEVER, same, unchanged

NUMBERS = [0, 1, -1, 2, -2, 6, -9, 10 ** 20, -GREAT]


class Points(unittest.TestCase):
    def test_point(self):
        for x in NUMBERS:
            for y in NUMBERS:
                if y != 0:
                    found = point(x, y)
                    self.assertTrue(found[1] > 0 and gcd(*found) == 1 and found[0] * y == found[1] * x)
                    same(self, found, tuple(found))
                elif x != 0:
                    same(self, point(x, y), (1, 0))

    def test_both_zero(self):
        with self.assertRaises(BadPoint):
            point(0, 0)

    def test_no_integers(self):
        for value in NEVER + [True, False, "1", (1,), (1, 2), [1]]:
            for other in (0, 1, 5, True, None):
                with self.assertRaises(BadPoint):
                    unchanged(self, point, value, other)
                with self.assertRaises(BadPoint):
                    unchanged(self, point, other, value)

    def test_is_point(self):
        for value in [(0, 1), (1, 0), (1, 1), (-1, 1), (3, 2), (-3, 2), (GREAT, 10)]:
            self.assertIs(is_point(value), True, value)
        for value in NEVER + [0, (0, 2), (-1, 0), (2, 0), (0, 0), (2, 4), (1, -1), (0, -1), [1, 0], [0, 1], (1, 0, 0),
                              (True, 0), (1, False), (True, False), (False, True), (True, 2), "far", ((1, 0),)]:
            self.assertIs(unchanged(self, is_point, value), False, value)

    def test_there_and_back(self):
        for x in [(0, 1), (1, 1), (-7, 3), (GREAT, 10)]:
            same(self, point_of(x), x)
            self.assertTrue(is_point(point_of(x)))
            same(self, fraction_of(point_of(x)), x)
            same(self, fraction_of(x), x)

    def test_far(self):
        with self.assertRaises(FarPoint):
            fraction_of((1, 0))
        with self.assertRaises(FarPoint):
            fraction_of(point(-5, 0))


if __name__ == "__main__":
    unittest.main()
