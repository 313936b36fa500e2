import random
import unittest

from ballmoves.errors import BadDeed, BadName, BallError, Clash, Missing, NoMoment, NothingDone, Ring, TooMany, UnknownName
from ballmoves.house import House, changed, tried, would_stand
from slow_house import SlowHouse
from some_states import MOVE, STILL, TURN, WIDE, slow_value, strict, word
from test_deeds import NO_NAMES
from values import NEVER, deep, same, unchanged

TWICE = (2, 0, 0, 1)
SET = [("set", name, m) for name in "abcd" for m in (MOVE, TURN, TWICE)]
WORDS = [("word", name, word(*letters)[1]) for name in "abcde" for letters in ([], ["a"], ["b-", "c"], ["d", "d", "a-"], ["e"])]
OTHERS = [("fix", "b"), ("fix", "e"), ("drop", "a"), ("drop", "c"), ("drop", "e"), ("call", "a", "f"), ("call", "f", "a"), ("call", "c", "b"),
          ("nix",), None, ("set", "A", MOVE), ("fix", "nix")]


def snapshot(house):
    """All that a house tells."""
    names = house.branches()
    return deep([[strict(house.state_at(number)) for number in range(len(house))], house.log(), names, [house.trail(name) for name in names],
                 [house.place(name) for name in names], house.here(), house.present(), strict(house.state())])


def slow_snapshot(slow):
    moments, branches, at = slow.all
    return deep([[strict(state) for state, _, _ in moments], [(elders, deed) for _, elders, deed in moments[1:]], [row[0] for row in branches],
                 [list(row[1]) for row in branches], [row[2] for row in branches], branches[at][0], slow.present(),
                 strict(moments[slow.present()][0])])


def answer(call, *args):
    """What a call answers, or its error with what it bears."""
    try:
        return deep(call(*args))
    except (BallError, Missing) as error:
        return (type(error).__name__, deep(vars(error)))


def any_step(chance):
    """The name of a call of a house, and its arguments."""
    return chance.choice([("do", chance.choice(SET))] * 5 + [("do", chance.choice(WORDS))] * 4 + [("do", chance.choice(OTHERS))] * 2 + [
        ("undo",), ("undo",), ("redo",), ("branch", chance.choice("xyz")), ("branch", "main"), ("go", chance.choice(["main", "x", "y", "z", "nix"])),
        ("go", chance.choice(["main", "x", "y"])), ("merge", chance.choice(["main", "x", "y", "z", "nix"])), ("merge", chance.choice(["main", "x"]))])


class Chance(unittest.TestCase):
    def test_many_houses(self):
        seen = set()
        for seed in range(40):
            chance = random.Random(seed)
            house, slow = House(), SlowHouse()
            for _ in range(60):
                name, *args = any_step(chance)
                before = snapshot(house)
                told = answer(getattr(house, name), *args)
                self.assertEqual(told, answer(getattr(slow, name), *args), (seed, name, args))
                self.assertEqual(snapshot(house), slow_snapshot(slow))
                seen.add((name, told[0]))
                if told[0] not in ("int", "NoneType"):
                    self.assertEqual(snapshot(house), before)
        self.assertLessEqual({("do", "int"), ("do", "BadDeed"), ("do", "BadName"), ("do", "UnknownName"), ("do", "Ring"), ("do", "Clash"),
                              ("undo", "int"), ("undo", "NothingDone"), ("redo", "int"), ("redo", "NothingDone"), ("branch", "NoneType"),
                              ("branch", "BadName"), ("go", "int"), ("go", "UnknownName"), ("merge", "int"), ("merge", "Clash"),
                              ("merge", "UnknownName")}, seen)


class Steps(unittest.TestCase):
    def test_new_house(self):
        house = House()
        same(self, [house.present(), house.state(), house.state_at(0), len(house), house.here(), house.branches(), house.trail("main"),
                    house.place("main"), house.log()], [0, {}, {}, 1, "main", ["main"], [0], 0, []])

    def test_do_undo_redo(self):
        house = House()
        same(self, [house.do(("set", "a", MOVE)), house.do(("set", "a", MOVE)), house.undo(), house.undo(), house.redo()], [1, 2, 1, 0, 1])
        same(self, [house.do(("set", "b", TURN)), house.trail("main"), house.place("main"), len(house)], [3, [0, 1, 3], 2, 4])
        same(self, house.log(), [((0,), ("set", "a", MOVE)), ((1,), ("set", "a", MOVE)), ((1,), ("set", "b", TURN))])
        same(self, [list(house.state()), house.state_at(2)], [["a", "b"], {"a": ("move", MOVE)}])
        with self.assertRaises(NothingDone):
            house.redo()
        house.undo()
        same(self, [house.trail("main"), house.place("main"), house.present()], [[0, 1, 3], 1, 1])

    def test_branches(self):
        house = House()
        house.do(("set", "a", MOVE))
        house.do(("set", "b", MOVE))
        house.undo()
        same(self, [house.branch("x"), house.here(), house.branches(), house.trail("x"), house.place("x")], [None, "main", ["main", "x"], [0, 1], 1])
        same(self, [house.go("x"), house.here(), house.do(("set", "c", TURN)), house.go("main"), house.redo()], [1, "x", 3, 1, 2])
        same(self, [house.trail("main"), house.trail("x"), house.place("x")], [[0, 1, 2], [0, 1, 3], 2])
        with self.assertRaises(NothingDone):
            house.go("x")
            house.redo()
        same(self, [house.undo(), house.undo()], [1, 0])
        with self.assertRaises(NothingDone):
            house.undo()

    def test_six_branches(self):
        house = House()
        for name in ("a", "main" * 2, "c", "d", "zz"):
            house.branch(name)
        for name in ("e", "f"):
            with self.assertRaises(TooMany):
                house.branch(name)
        for name in NO_NAMES + ["main", "a", "zz"]:
            with self.assertRaises(BadName) as caught:
                house.branch(name)
            same(self, caught.exception.name, name)
        same(self, house.branches(), ["main", "a", "mainmain", "c", "d", "zz"])

    def test_two_hundred_moments(self):
        house = House()
        for k in range(199):
            same(self, house.do(SET[k % 12]), k + 1)
        before = snapshot(house)
        house.branch("x")
        for call, error in [(lambda: house.do(SET[0]), TooMany), (lambda: house.do(None), BadDeed), (lambda: house.do(("fix", "nix")), UnknownName),
                            (lambda: house.do(("word", "a", (("a", 1),))), Ring), (lambda: would_stand(house, [SET[0]]), TooMany),
                            (lambda: tried(house, [SET[0]]), TooMany)]:
            with self.assertRaises(error):
                call()
        self.assertEqual(len(house), 200)
        house.undo()
        same(self, [house.go("x"), house.go("main"), house.undo(), house.merge("main")], [199, 198, 197, 197])
        house.redo()
        house.redo()
        self.assertNotEqual(snapshot(house), before)
        with self.assertRaises(NoMoment):
            house.state_at(200)

    def test_merge_at_two_hundred(self):
        house = House()
        house.branch("x")
        house.do(("set", "a", MOVE))
        house.go("x")
        for k in range(198):
            house.do(("set", "b", TURN))
        self.assertEqual(len(house), 200)
        with self.assertRaises(TooMany):
            house.merge("main")
        same(self, house.go("main"), 1)
        with self.assertRaises(TooMany):
            house.merge("x")

    def test_unknown_names(self):
        house = House()
        house.branch("x")
        for name in NO_NAMES + ["nix", "mainn"]:
            for call in (house.go, house.trail, house.place, house.merge):
                with self.assertRaises(UnknownName) as caught:
                    unchanged(self, call, name)
                same(self, caught.exception.name, name)

    def test_unknown_moments(self):
        house = House()
        house.do(SET[0])
        for number in [2, -1, 10 ** 30, -2, True, False, None, "0", (0,), [0], {}, (), "main"]:
            for call in (house.state_at, lambda told: changed(house, told, 0), lambda told: changed(house, 1, told), lambda told: changed(house, told, 7)):
                with self.assertRaises(NoMoment) as caught:
                    unchanged(self, call, number)
                same(self, caught.exception.number, number)

    def test_any_deed(self):
        house = House()
        house.do(SET[0])
        before = snapshot(house)
        for value in NEVER:
            with self.assertRaises(BadDeed):
                unchanged(self, house.do, value)
        for name in NO_NAMES:
            with self.assertRaises(BadName) as caught:
                house.do(("call", "a", name))
            same(self, caught.exception.name, name)
        self.assertEqual(snapshot(house), before)

    def test_told_lists_are_new(self):
        house = House()
        for deed in SET[::3] + WORDS[-1:]:
            answer(house.do, deed)
        house.branch("x")
        before = snapshot(house)
        house.state()["a"] = None
        house.state_at(1)["z"] = 1
        house.trail("main").append(0)
        house.branches().append("y")
        house.log().append(None)
        changed(house, 0, 1).append("z")
        self.assertEqual(snapshot(house), before)


class Twins(unittest.TestCase):
    def three(self):
        house = House()
        house.do(SET[0])
        house.branch("x")
        house.do(SET[4])
        house.undo()
        return house

    def test_twin(self):
        house = self.three()
        other = house.twin()
        self.assertTrue(house == other and other == house and type(other) is House)
        self.assertEqual(snapshot(house), snapshot(other))
        for step in [("do", SET[5]), ("redo",), ("branch", "y"), ("go", "x"), ("undo",)]:
            other = house.twin()
            before = snapshot(house)
            getattr(other, step[0])(*step[1:])
            self.assertFalse(house == other)
            self.assertTrue(house != other)
            self.assertEqual(snapshot(house), before)
            other = house.twin()
            before = snapshot(other)
            getattr(self.three(), step[0])(*step[1:])
            self.assertEqual(snapshot(other), before)
            self.assertEqual(self.three(), other)

    def test_equal_and_unlike(self):
        self.assertEqual(House(), House())
        one, other = self.three(), self.three()
        self.assertEqual(one, other)
        one.redo()
        self.assertNotEqual(one, other)
        one.undo()
        self.assertEqual(one, other)
        one.branch("y")
        one.branch("z")
        other.branch("z")
        other.branch("y")
        self.assertNotEqual(one, other)
        # The same states by other deeds are another log.
        one, other = House(), House()
        one.do(("set", "a", STILL))
        other.do(("word", "a", ()))
        other.do(("fix", "a"))
        other.undo()
        self.assertNotEqual(one, other)
        one, other = House(), House()
        for house in (one, other):
            house.do(("set", "a", MOVE))
        one.do(("fix", "a"))
        other.do(("set", "a", MOVE))
        self.assertEqual(one.state(), other.state())
        self.assertNotEqual(one, other)
        for value in NEVER + [House, "main", one.log(), one.state()]:
            self.assertFalse(one == value)
            self.assertTrue(one != value)


def parted(common, mine, theirs):
    """A house with deeds done ahead of a branch, then others in each branch; it stands in main, beside x."""
    house = House()
    for deed in common:
        house.do(deed)
    house.branch("x")
    for deed in mine:
        house.do(deed)
    house.go("x")
    for deed in theirs:
        house.do(deed)
    house.go("main")
    return house


class Merges(unittest.TestCase):
    def test_elders(self):
        house = parted([SET[0]], [SET[3]], [])
        same(self, [house.merge("x"), house.merge("main"), len(house)], [2, 2, 3])
        house.go("x")
        # Where the present one is an elder of the other one, a moment is made all the same.
        same(self, [house.merge("main"), house.log()[-1], house.state()], [3, ((1, 2), ("merge", "main")), house.state_at(2)])
        house.go("main")
        same(self, [house.merge("x"), house.merge("x"), house.trail("main")], [4, 4, [0, 1, 2, 4]])
        same(self, house.log()[-1], ((2, 3), ("merge", "x")))

    def test_names(self):
        house = parted([("set", "a", MOVE), ("set", "b", MOVE), ("set", "c", MOVE), ("set", "d", MOVE)],
                       [("drop", "a"), ("set", "b", TURN), ("set", "e", TURN), ("set", "g", TURN)],
                       [("drop", "c"), ("set", "d", TWICE), ("set", "f", TWICE), ("set", "g", TURN), ("set", "b", TURN)])
        house.merge("x")
        self.assertEqual(strict(house.state()), strict({"b": ("move", TURN), "d": ("move", TWICE), "e": ("move", TURN), "f": ("move", TWICE),
                                                        "g": ("move", TURN)}))

    def test_same_on_both_sides(self):
        house = parted([SET[0]], [("set", "a", TURN), ("drop", "a"), ("set", "b", TURN)], [("set", "b", TURN), ("drop", "a")])
        same(self, [house.merge("x"), house.state()], [6 + 1, {"b": ("move", TURN)}])
        self.assertEqual(len(house), 8)

    def test_clash(self):
        for mine, theirs, names in [([("set", "a", TURN)], [("set", "a", TWICE)], ("a",)), ([("drop", "a")], [("set", "a", TWICE)], ("a",)),
                                    ([("set", "a", TURN)], [("drop", "a")], ("a",)), ([("set", "z", TURN)], [("set", "z", MOVE)], ("z",)),
                                    ([("set", "b", STILL)], [("word", "b", ())], ("b",)),
                                    ([("set", "z", TURN), ("drop", "a"), ("set", "e", MOVE)], [("set", "z", MOVE), ("set", "a", WIDE), ("set", "d", MOVE)],
                                     ("a", "z"))]:
            house = parted([("set", "a", MOVE), ("set", "b", MOVE)], mine, theirs)
            self.refused(house, names)

    def refused(self, house, names):
        before = snapshot(house)
        with self.assertRaises(Clash) as caught:
            house.merge("x")
        same(self, caught.exception.names, names)
        self.assertEqual(snapshot(house), before)

    def test_lacking_names(self):
        house = parted([("set", "a", MOVE), ("set", "b", MOVE)], [("drop", "a"), ("word", "c", (("b", 1),))],
                       [("word", "e", (("a", 1),)), ("word", "d", (("a", 1), ("b", 1))), ("word", "f", (("e", 1),))])
        self.refused(house, ("d", "e"))
        house = parted([("set", "a", MOVE), ("set", "b", MOVE)], [("word", "b", (("a", -1),))], [("call", "a", "z")])
        self.refused(house, ("b",))
        # What clashes is told ahead of what lacks.
        house = parted([("set", "a", MOVE)], [("drop", "a"), ("set", "b", MOVE)], [("word", "c", (("a", 1),)), ("set", "b", TURN)])
        self.refused(house, ("b",))

    def test_rings(self):
        common = [("set", "a", MOVE), ("set", "b", MOVE), ("set", "c", MOVE)]
        house = parted(common, [("word", "a", (("b", 1),))], [("word", "b", (("c", 1),)), ("word", "c", (("a", 1),)), ("word", "z", (("a", 1),))])
        self.refused(house, ("a", "b", "c"))
        house = parted(common, [("word", "a", (("b", 1),)), ("word", "e", (("a", 1),))], [("word", "b", (("a", 1), ("c", 1)))])
        self.refused(house, ("a", "b"))
        # What lacks a name is told ahead of rings.
        house = parted(common, [("word", "a", (("b", 1),)), ("drop", "c")], [("word", "b", (("a", 1), ("c", 1)))])
        self.refused(house, ("b",))

    def test_caps(self):
        names = "abcdefghijkl"
        house = parted([("set", name, MOVE) for name in names[:10]], [("set", "k", MOVE), ("set", "l", MOVE)], [("set", "m", MOVE)])
        before = snapshot(house)
        with self.assertRaises(TooMany):
            house.merge("x")
        self.assertEqual(snapshot(house), before)
        house.undo()
        same(self, [house.merge("x"), len(house.state())], [14, 12])
        house = parted([("set", "a", MOVE), ("word", "b", (("a", 1),) * 10), ("word", "c", (("b", 1),) * 10)], [("word", "b", (("a", 1),) * 12)],
                       [("word", "c", (("b", 1),) * 12), ("word", "d", (("c", 1),) * 4)])
        with self.assertRaises(TooMany):
            house.merge("x")
        same(self, [house.undo(), house.merge("x")], [3, 7])

    def test_two_common_moments(self):
        # Both branches merge what the other one was: then two moments are common, and the greater one counts.
        house = parted([("set", "a", MOVE)], [("set", "b", MOVE)], [("set", "c", MOVE)])
        house.branch("y")
        house.go("y")
        same(self, house.merge("x"), 4)
        house.go("x")
        same(self, house.merge("main"), 5)
        house.do(("drop", "b"))
        house.do(("set", "c", TURN))
        house.go("y")
        house.do(("set", "a", TURN))
        # Common are 0, 1, 2 and 3; by 3, which lacks b, b came on one side, and does not stand on the other one.
        same(self, [house.merge("x"), house.log()[-1][0]], [9, (8, 7)])
        self.assertEqual(strict(house.state()), strict({"a": ("move", TURN), "b": ("move", MOVE), "c": ("move", TURN)}))

    def test_merges_in_trails(self):
        house = parted([SET[0]], [SET[3]], [SET[6]])
        same(self, [house.merge("x"), house.undo(), house.redo(), house.undo(), house.do(SET[9]), house.trail("main")], [4, 2, 4, 2, 5, [0, 1, 2, 5]])
        same(self, [house.go("x"), house.merge("main"), house.trail("x"), house.place("x")], [3, 6, [0, 1, 3, 6], 3])


class Ahead(unittest.TestCase):
    def test_would_stand(self):
        house = parted([("set", "a", MOVE), ("word", "b", (("a", 1), ("a", 1)))], [], [])
        before = snapshot(house)
        deeds = [("set", "a", TWICE), ("word", "c", (("b", -1), ("a", 1))), ("fix", "b"), ("call", "a", "z")]
        for many in range(len(deeds) + 1):
            twin = house.twin()
            for deed in deeds[:many]:
                twin.do(deed)
            state = twin.state()
            for some in (deeds[:many], tuple(deeds[:many])):
                found = unchanged(self, would_stand, house, some)
                self.assertEqual(deep(found), deep({name: slow_value(state, name) for name in sorted(state)}))
        self.assertEqual(snapshot(house), before)
        same(self, would_stand(house, [("drop", "b"), ("drop", "a")]), {})
        for deeds, error in [([None], BadDeed), ([("drop", "b"), ("fix", "b")], UnknownName), ([("drop", "a"), None], Clash),
                             ([("word", "a", (("b", 1),))], Ring), ([SET[0]] * 200, TooMany), ([("set", "B", MOVE)], BadName)]:
            for call in (would_stand, tried):
                with self.assertRaises(error):
                    unchanged(self, call, house, deeds)
                self.assertEqual(snapshot(house), before)

    def test_tried(self):
        house, other = House(), House()
        deeds = [SET[0], SET[4], ("word", "e", (("a", 1), ("b", -1))), ("fix", "e")]
        before = deep(deeds)
        same(self, [tried(house, deeds), tried(house, []), tried(house, tuple(deeds[:1]))], [[1, 2, 3, 4], [], [5]])
        self.assertEqual(deep(deeds), before)
        for deed in deeds + deeds[:1]:
            other.do(deed)
        self.assertEqual(house, other)
        for k in range(len(deeds)):
            before = snapshot(house)
            with self.assertRaises(UnknownName) as caught:
                tried(house, deeds[:k] + [("fix", "nix"), ("drop", "nil")] + deeds[k:])
            same(self, caught.exception.name, "nix")
            self.assertEqual(snapshot(house), before)

    def test_tried_to_two_hundred(self):
        house = House()
        same(self, tried(house, [SET[0]] * 199), list(range(1, 200)))
        with self.assertRaises(TooMany):
            tried(house, [SET[0]])
        house = House()
        with self.assertRaises(TooMany):
            tried(house, [SET[0]] * 200)
        self.assertEqual(len(house), 1)

    def test_tried_behind_an_undo(self):
        house = parted([SET[0], SET[3]], [], [])
        house.undo()
        same(self, [tried(house, [SET[6], SET[9]]), house.trail("main"), house.place("main")], [[3, 4], [0, 1, 3, 4], 3])

    def test_changed(self):
        house = House()
        deeds = [("set", "a", MOVE), ("word", "b", (("a", 1),)), ("fix", "b"), ("set", "a", TURN), ("word", "c", (("a", 1), ("b", 1))), ("call", "b", "z"),
                 ("word", "a", ()), ("set", "a", STILL), ("drop", "c"), ("drop", "z"), ("drop", "a")]
        for deed in deeds:
            house.do(deed)
        for one in range(len(house)):
            for other in range(len(house)):
                before, then = house.state_at(one), house.state_at(other)
                expected = [name for name in sorted({*before, *then}) if (slow_value(before, name) if name in before else None) !=
                            (slow_value(then, name) if name in then else None)]
                same(self, changed(house, one, other), expected)
        same(self, [changed(house, 2, 3), changed(house, 7, 8), changed(house, 0, 11)], [[], [], []])


if __name__ == "__main__":
    unittest.main()
