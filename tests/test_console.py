import unittest

from ballmoves.book import length_of, state_text, value_of
from ballmoves.console import Console
from ballmoves.deeds import read_deed
from ballmoves.errors import BadText
from ballmoves.house import House
from ballmoves.kinds import stretch
from ballmoves.primes import PRIMES
from ballmoves.texts import move_text
from ballmoves.whole import whole
from some_states import MIXED, TURNED
from test_house import snapshot
from values import NEVER, same, unchanged

LINES = ["set a (1 -1 1 0)", "set b (2 -4 1 0)", "word c [a b]", "word d [c- a]", "set e (2 0 0 1)", "branch side", "set f (97 1 0 2)"]
ASKED = ["show", "show a", "show d", "value d", "length d", "stretch 2 c", "stretch 97 f", "whole a b", "whole b", "at 3", "at 0"]


def desk_with(lines):
    desk = Console()
    for line in lines:
        desk.say(line)
    return desk


class Told(unittest.TestCase):
    def test_house(self):
        one, other = Console(), Console()
        self.assertIs(one.house(), one.house())
        self.assertIsNot(one.house(), other.house())
        self.assertTrue(type(one.house()) is House and one.house() == House())
        one.say("set a (1 1 0 1)")
        self.assertNotEqual(one.house(), other.house())
        one.house().do(("set", "b", (1, 1, 0, 1)))
        same(self, [one.say("undo"), one.say("show")], ["1", "a = (1 1 0 1)"])

    def test_lines_that_do(self):
        desk, house = Console(), House()
        same(self, [desk.say(line) for line in LINES], ["1", "2", "3", "4", "5", "5", "6"])
        for line in LINES:
            if line == "branch side":
                house.branch("side")
            else:
                house.do(read_deed(line))
        self.assertEqual(desk.house(), house)
        for line, call in [("undo", house.undo), ("undo", house.undo), ("redo", house.redo), ("go side", lambda: house.go("side")),
                           ("fix c", lambda: house.do(("fix", "c"))), ("call c m", lambda: house.do(("call", "c", "m"))),
                           ("drop d", lambda: house.do(("drop", "d"))), ("merge main", lambda: house.merge("main")),
                           ("go main", lambda: house.go("main")), ("merge main", lambda: house.merge("main")), ("merge side", lambda: house.merge("side"))]:
            same(self, desk.say(line), str(call()))
            self.assertEqual(desk.house(), house)
        same(self, desk.say("branch c"), str(house.present()))

    def test_lines_that_ask(self):
        for state in (MIXED, TURNED):
            desk = Console()
            for name in state:
                desk.house().do(("set", name, (1, 0, 0, 1)))
            for name, stands in state.items():
                desk.house().do(("set" if stands[0] == "move" else "word", name, stands[1]))
            before = snapshot(desk.house())
            same(self, desk.say("show"), state_text(state))
            for name in state:
                m = value_of(state, name)
                same(self, desk.say("value " + name), move_text(m))
                same(self, desk.say("length " + name), str(length_of(state, name)))
                same(self, desk.say("show " + name), state_text({name: state[name]})[len(name) + 3:] if state[name][0] == "move" else
                     "[" + " ".join(other + ("-" if s < 0 else "") for other, s in state[name][1]) + "]")
                for p in PRIMES:
                    same(self, desk.say(f"stretch {p} {name}"), str(stretch(p, m)))
            for number in range(len(desk.house())):
                same(self, desk.say(f"at {number}"), state_text(desk.house().state_at(number)))
            self.assertEqual(snapshot(desk.house()), before)

    def test_whole(self):
        desk = desk_with(["set a (1 1 0 1)", "set b (0 1 1 0)", "set c (2 0 0 1)", "set d (0 3 1 0)", "set e (6 5 0 7)", "word f [e a e-]", "word g []",
                          "set h (101 0 0 1)"])
        names = "abcdefg"
        for one in names:
            for other in names:
                moves = [value_of(desk.house().state(), name) for name in (one, other)]
                told = whole(moves)
                same(self, desk.say(f"whole {one} {other}"), "yes" if told[0] == "whole" else f"no {told[1]}")
        same(self, [desk.say("whole a b g b a"), desk.say("whole d"), desk.say("whole a d c"), desk.say("whole g")], ["yes", "no 3", "no 2", "yes"])
        same(self, [desk.say("whole h"), desk.say("whole a b c d e f"), desk.say("whole"), desk.say("whole "), desk.say("whole a  b"), desk.say("whole z")],
             ["refused", "what", "what", "what", "what", "refused"])


class Refused(unittest.TestCase):
    def test_refused(self):
        desk = desk_with(LINES)
        for line in ["drop a", "drop z", "fix z", "call a b", "call z y", "word a [c]", "word a [a]", "word z [y]", "redo", "go nix", "merge nix", "branch main",
                     "branch side", "show z", "value z", "length z", "stretch 2 z", "whole z", "whole a z", "whole z a", "at 7", "at " + "9" * 30]:
            before = snapshot(desk.house())
            same(self, desk.say(line), "refused")
            self.assertEqual(snapshot(desk.house()), before)
        same(self, desk.say("undo"), "5")
        same(self, [Console().say("undo"), Console().say("at 1"), Console().say("at 0"), Console().say("show")], ["refused", "refused", "", ""])
        desk = desk_with(["set " + name + " (1 0 0 1)" for name in "abcdefghijkl"])
        same(self, [desk.say("set m (1 0 0 1)"), desk.say("word m []"), desk.say("set a (2 0 0 1)")], ["refused", "refused", "13"])
        desk = desk_with(["branch " + name for name in "abcde"])
        same(self, [desk.say("branch f"), desk.say("branch e"), desk.say("branch F")], ["refused", "refused", "what"])

    def test_lines_of_clashes(self):
        desk = desk_with(["set a (1 1 0 1)", "branch x", "set a (2 0 0 1)", "go x", "set a (3 0 0 1)"])
        same(self, [desk.say("merge main"), desk.say("undo"), desk.say("merge main"), desk.say("show")], ["refused", "1", "4", "a = (2 0 0 1)"])

    def test_two_hundred(self):
        desk = desk_with(["set a (1 1 0 1)"] * 199)
        same(self, [desk.say("set a (1 1 0 1)"), desk.say("undo"), desk.say("at 199"), desk.say("at 200")], ["refused", "198", "a = (1 1 0 1)", "refused"])

    def test_no_lines(self):
        values = NEVER + ["undo ", " undo", "undo a", "redo a", "UNDO", "go", "go ", "go A", "go a b", "go  main", "merge", "merge A", "merge a b", "branch",
                          "branch A", "branch a b", "branch abcdefghi", "show ", "show A", "show a b", "show abcdefghi", "value", "value A", "value a b", "length",
                          "length a b", "length 1", "stretch", "stretch 2", "stretch a", "stretch 2 A", "stretch 2 a b", "stretch 02 a", "stretch 4 a", "stretch 1 a",
                          "stretch 101 a", "stretch -2 a", "stretch  2 a", "stretch 2  a", "stretch 2/1 a", "stretch a 2", "whole A", "whole a,b", "at", "at ", "at a",
                          "at -1", "at 00", "at 01", "at 1 1", "at " + "1" * 31, "at 1.", "at +1", "state", "here", "set a", "set a (1 0 0 1) ", "set a (2 0 0 2)",
                          "set a (01 0 0 1)", "word a [a", "word a [a  b]", "fix", "fix a b", "fix A", "drop A", "call a A", "call a", "undo\n", "show\t", "\tshow",
                          "set a (1 0 0 1);", "at 1\n", ["undo"], ("undo",), {"undo": 1}, b"undo", Console, 7]
        for value in values:
            desk = desk_with(LINES)
            before = snapshot(desk.house())
            same(self, unchanged(self, desk.say, value), "what")
            self.assertEqual(snapshot(desk.house()), before)

    def test_near_lines(self):
        """Right lines with a sign put in, left out, or exchanged."""
        numbers = [str(n) for n in range(99)]
        for line in ["undo", "redo", "show", "go side", "merge side", "branch x", "show a", "value b", "length c", "stretch 2 c", "whole a b", "at 2",
                     "drop e", "call e m", "fix c", "word e [a- b]", "set e (2 -1 0 1)"]:
            for k in range(len(line) + 1):
                for sign in " ab1-0A\n":
                    for near in {line[:k] + sign + line[k:], line[:k] + sign + line[k + 1:], line[:k] + line[k + 1:]}:
                        desk = desk_with(LINES)
                        before = snapshot(desk.house())
                        told = desk.say(near)
                        if told in ("what", "refused") or near.split(" ")[0] in ("show", "value", "length", "stretch", "whole", "at"):
                            self.assertEqual(snapshot(desk.house()), before, near)
                        else:
                            self.assertIn(told, numbers, near)
                        self.assertEqual(told != "what", self.is_line(near), near)

    def is_line(self, line):
        """Whether a string is a line, read by its words."""
        words = line.split(" ")
        names = [1 <= len(word) <= 8 and all("a" <= sign <= "z" for sign in word) for word in words[1:]]
        try:
            read_deed(line)
        except BadText:
            if words[0] in ("undo", "redo"):
                return len(words) == 1
            if words[0] in ("go", "merge", "branch", "show", "value", "length"):
                return names == [True] or words == ["show"]
            if words[0] == "stretch":
                return names == [False, True] and words[1] in [str(p) for p in PRIMES]
            if words[0] == "whole":
                return all(names) and 1 <= len(names) <= 5
            return words[0] == "at" and len(words) == 2 and words[1] in [str(n) for n in range(1000)]
        return True


class Great(unittest.TestCase):
    def test_great_numbers(self):
        great = "9" * 200
        desk = Console()
        same(self, [desk.say(f"set a ({great} 1 0 1)"), desk.say(f"set a (1{great} 1 0 1)"), desk.say("show a")], ["1", "what", f"({great} 1 0 1)"])
        desk = desk_with(["set a (999999 1 0 999998)", "word b [" + " ".join("a" * 12) + "]", "word c [" + " ".join("b" * 12) + "]",
                          "word d [c c c b b b b b]"])
        same(self, [desk.say("length d"), desk.say("stretch 2 d")], ["492", "492"])
        self.assertEqual(desk.say("value d"), move_text(value_of(desk.house().state(), "d")))

    def test_answers_are_strings(self):
        desk = desk_with(LINES)
        for line in LINES + ASKED + ["undo", "nix", 5]:
            self.assertIs(type(desk.say(line)), str)


if __name__ == "__main__":
    unittest.main()
