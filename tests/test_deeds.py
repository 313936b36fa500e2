import unittest
from itertools import product

from ballmoves.book import length_of, value_of
from ballmoves.deeds import behind, deed_text, read_deed
from ballmoves.errors import BadDeed, BadName, BadText, Clash, Ring, TooMany, UnknownName
from some_states import CHAIN, MIXED, MOVE, STATE, STATES, STILL, TURN, TURNED, WIDE, slow_used, slow_value, strict, word
from values import NEVER, broken, deep, same, unchanged

NO_NAMES = ["", "A", "aA", "a1", "a b", "a-", " a", "a\t", "abcdefghi", "a" * 100, 0, 1, True, None, ("a",), ["a"], {"a": 1}, (), [[]]]
FULL = {name: ("move", MOVE) for name in "abcdefghijkl"}


def told_error(test, error, call, *args):
    with test.assertRaises(error) as caught:
        unchanged(test, call, *args)
    test.assertIs(type(caught.exception), error)
    return vars(caught.exception)


class Done(unittest.TestCase):
    def test_set(self):
        for state in STATES:
            for name in sorted(state) + ["m", "zzzzzzzz"]:
                for m in (STILL, WIDE, (0, 1, -2, 0)):
                    found = unchanged(self, behind, state, ("set", name, m))
                    self.assertEqual(strict(found), strict({k: {**state, name: ("move", m)}[k] for k in sorted({*state, name})}))

    def test_word(self):
        for state in STATES:
            for letters in [(), tuple((name, -1) for name in list(state)[:8]), (("a", 1), ("a", -1)) * 6]:
                if {name for name, _ in letters} <= set(state):
                    found = unchanged(self, behind, state, ("word", "m", letters))
                    self.assertEqual(strict(found), strict({k: {**state, "m": ("word", letters)}[k] for k in sorted({*state, "m"})}))
        same(self, behind(STATE, ("word", "d", ()))["d"], ("word", ()))
        same(self, behind(STATE, ("word", "a", (("c", -1),)))["a"], word("c-"))

    def test_fix(self):
        for state in STATES:
            for name in state:
                found = unchanged(self, behind, state, ("fix", name))
                self.assertEqual(strict(found), strict({**state, name: ("move", slow_value(state, name))}))
                for other in state:
                    same(self, value_of(found, other), value_of(state, other))

    def test_drop(self):
        for state in STATES:
            for name in state:
                names = tuple(other for other in sorted(state) if name in slow_used(state, other))
                if names:
                    same(self, told_error(self, Clash, behind, state, ("drop", name)), {"names": names})
                else:
                    found = unchanged(self, behind, state, ("drop", name))
                    self.assertEqual(strict(found), strict({other: state[other] for other in state if other != name}))

    def test_call(self):
        for state in STATES:
            for name in state:
                for new in (name, "m", "aa", "zzz"):
                    found = unchanged(self, behind, state, ("call", name, new))
                    called = {other: new if other == name else other for other in state}
                    expected = {called[other]: state[other] if state[other][0] == "move" else
                                ("word", tuple((called[inner], s) for inner, s in state[other][1])) for other in state}
                    self.assertEqual(strict(found), strict({key: expected[key] for key in sorted(expected)}))
                    for other in state:
                        same(self, value_of(found, called[other]), value_of(state, other))

    def test_new_states(self):
        for deed in [("set", "a", MOVE), ("call", "a", "a"), ("fix", "a"), ("word", "d", (("b", 1), ("b", 1)))]:
            found = behind(STATE, deed)
            self.assertEqual(found, STATE)
            found["a"] = None
            self.assertEqual(behind(STATE, deed), STATE)


class BadDeeds(unittest.TestCase):
    def test_any_value(self):
        values = NEVER + ["set", ("set",), ("set", "a"), ("set", "a", MOVE, 1), ["set", "a", MOVE], ("set", "a", (2, 0, 0, 2)), ("set", "a", None),
                          ("set", "a", list(MOVE)), ("set", "a", (1, 1, 0, True)), ("set", "a", (True, 1, 0, 1)), ("set", "a", (0, 0, 0, 0)),
                          ("word", "a"), ("word", "a", ["b"]), ("word", "a", [("a", 1)]), ("word", "a", ("a", 1)), ("word", "a", (("a", 0),)),
                          ("word", "a", (("a", True),)), ("word", "a", (("a", 1, 1),)), ("word", "a", (["a", 1],)), ("word", "a", (("a",),)),
                          ("word", "a", (("c", 1),) * 13), ("word", "a", "a"), ("word", "a", None), ("word", "a", (None,)), ("fix",),
                          ("fix", "a", "a"), ("drop",), ("drop", "a", 1), ("call", "a"), ("call", "a", "b", "c"), ("merge", "main"), ("undo",),
                          ("sett", "a", MOVE), ("SET", "a", MOVE), (["set"], "a", MOVE), (None, "a"), ("", "a"), ("word", 0, (("a", 2),)),
                          ("set", None, (0, 0, 0, 1)), {"set": ("a", MOVE)}, ("fix", "a", None), (("fix", "a"),), STATE]
        for value in values:
            for state in ({}, STATE, FULL):
                same(self, told_error(self, BadDeed, behind, state, value), {})
        for letter in broken(("c", 1)):
            if type(letter) is not tuple or len(letter) != 2 or letter[1:] != (1,) or deep(letter[1]) != deep(1):
                told_error(self, BadDeed, behind, STATE, ("word", "d", (("c", 1), letter)))

    def test_bad_names(self):
        for name in NO_NAMES:
            for state in ({}, STATE, FULL):
                for deed in [("set", name, MOVE), ("word", name, ()), ("word", name, (("nix", 1),)), ("word", name, ((name, 1),))]:
                    same(self, told_error(self, BadName, behind, state, deed), {"name": name})
        for new in NO_NAMES + ["b", "c", "d"]:
            same(self, told_error(self, BadName, behind, STATE, ("call", "a", new)), {"name": new})

    def test_unknown_names(self):
        for name in NO_NAMES + ["nix", "aa"]:
            for deed in [("fix", name), ("drop", name), ("call", name, "a"), ("call", name, None), ("word", "e", (("a", 1), (name, -1), ("nil", 1))),
                         ("word", "a", (("a", 1), ("b", 1), (name, -1), ("nil", 1)))]:
                same(self, told_error(self, UnknownName, behind, STATE, deed), {"name": name})
            same(self, told_error(self, UnknownName, behind, {}, ("word", "a", ((name, 1),))), {"name": name})
        box = ["a", [1]]
        with self.assertRaises(UnknownName) as caught:
            behind(STATE, ("fix", box))
        box[1].append(2)
        self.assertEqual(caught.exception.name, ["a", [1]])

    def test_several_at_once(self):
        # Bad letters ahead of a bad name, this ahead of unknown ones, these ahead of rings and of too many.
        told_error(self, BadDeed, behind, FULL, ("word", 5, (("nix", 2),)))
        told_error(self, BadName, behind, FULL, ("word", "M", (("nix", 1),)))
        same(self, told_error(self, UnknownName, behind, FULL, ("word", "m", (("m", 1), ("nix", 1)))), {"name": "nix"})
        same(self, told_error(self, Ring, behind, FULL, ("word", "m", (("m", 1),))), {"names": ("m",)})
        same(self, told_error(self, UnknownName, behind, STATE, ("call", "nix", "b")), {"name": "nix"})


def slow_ring(state, name):
    """The names of a ring, or (), as the document tells them; state may have rings by this name alone."""
    def hangs(other, seen):
        used = slow_used(state, other)
        return name in used or any(hangs(inner, seen | {inner}) for inner in used if inner not in seen)
    if not hangs(name, {name}):
        return ()
    names = [name]
    while name not in slow_used(state, names[-1]):
        names.append(min(other for other in slow_used(state, names[-1]) if hangs(other, {other})))
    return tuple(names)


class Rings(unittest.TestCase):
    def test_all_words(self):
        seen = set()
        for state in STATES[2:]:
            for name, some in product(list(state) + ["m"], product(list(state)[:5] + ["m"], repeat=2)):
                letters = tuple((other, 1) for other in some)
                if not {other for other in some} <= {*state, name}:
                    continue
                names = slow_ring({**state, name: ("word", letters)}, name)
                seen.add(len(names))
                if names:
                    same(self, told_error(self, Ring, behind, state, ("word", name, letters)), {"names": names})
                elif length_of({**state, name: ("word", letters)}, name) <= 500 and len({*state, name}) <= 12:
                    self.assertEqual(behind(state, ("word", name, letters))[name], ("word", letters))
        self.assertLessEqual({0, 1, 2, 3, 4}, seen)

    def test_named(self):
        state = {"a": ("move", MOVE), "b": word("a"), "c": word("a"), "d": word("b", "c"), "e": word("d", "a")}
        for letters, names in [(("e",), ("a", "e")), (("d",), ("a", "d", "b")), (("c", "b"), ("a", "b")), (("d", "e", "c"), ("a", "c")),
                               (("a", "e"), ("a",)), (("d", "e"), ("a", "d", "b"))]:
            same(self, told_error(self, Ring, behind, state, ("word", "a", word(*letters)[1])), {"names": names})
        # A name that does not hang on the new one is left out, though it is less.
        state = {"a": ("move", MOVE), "b": word("a", "z"), "z": ("move", TURN)}
        same(self, told_error(self, Ring, behind, state, ("word", "z", word("a", "b")[1])), {"names": ("z", "b")})
        same(self, told_error(self, Ring, behind, {}, ("word", "a", word("a-")[1])), {"names": ("a",)})


class Caps(unittest.TestCase):
    def test_names(self):
        eleven = {name: FULL[name] for name in list(FULL)[:11]}
        self.assertEqual(len(behind(eleven, ("set", "z", MOVE))), 12)
        self.assertEqual(len(behind(eleven, ("word", "z", ()))), 12)
        self.assertEqual(len(behind(FULL, ("set", "a", TURN))), 12)
        self.assertEqual(len(behind(FULL, ("call", "a", "z"))), 12)
        self.assertEqual(len(behind(FULL, ("fix", "a"))), 12)
        self.assertEqual(len(behind(FULL, ("drop", "a"))), 11)
        told_error(self, TooMany, behind, FULL, ("set", "z", MOVE))
        told_error(self, TooMany, behind, FULL, ("word", "z", word("a")[1]))

    def test_lengths(self):
        # The lengths of CHAIN go to 256.
        for letters, many in [(("i", "h", "g", "f", "d", "c"), 256 + 128 + 64 + 32 + 8 + 4), (("i", "h", "g", "f", "e", "c"), 500)]:
            found = behind(CHAIN, ("word", "m", word(*letters)[1]))
            same(self, length_of(found, "m"), many)
        told_error(self, TooMany, behind, CHAIN, ("word", "m", word("i", "h", "g", "f", "e", "c", "a")[1]))
        told_error(self, TooMany, behind, CHAIN, ("word", "m", word("i", "i")[1]))
        # A name that uses the new one may be too long, too.
        told_error(self, TooMany, behind, CHAIN, ("word", "b", word("a", "a", "a", "a")[1]))
        self.assertEqual(length_of(behind(CHAIN, ("word", "b", word("a", "a", "a")[1])), "i"), 384)

    def test_fix_may_be_too_long(self):
        state = {"a": word(), "b": word(*["a"] * 12), "c": word(*["b"] * 12), "d": word(*["c"] * 3), "e": word(*["c"] * 4)}
        same(self, [length_of(state, name) for name in "abcde"], [0, 0, 0, 0, 0])
        told_error(self, TooMany, behind, state, ("fix", "a"))
        told_error(self, TooMany, behind, state, ("set", "a", MOVE))
        self.assertEqual(length_of(behind(state, ("fix", "b")), "e"), 48)
        less = {name: state[name] for name in "abcd"}
        self.assertEqual(length_of(behind(less, ("fix", "a")), "d"), 432)


class Texts(unittest.TestCase):
    def deeds(self):
        found = [("set", name, m) for name in ("a", "abcdefgh") for m in (STILL, MOVE, WIDE, (0, 1, -2, 0))]
        found += [("word", "b", letters) for letters in ((), (("a", 1),), (("a", -1),), (("abcdefgh", -1), ("b", 1)) * 6)]
        return found + [("fix", "set"), ("drop", "drop"), ("call", "a", "a"), ("call", "word", "call"), ("set", "m", (10 ** 199, 1, 0, 10 ** 199 - 1))]

    def test_there_and_back(self):
        for deed in self.deeds():
            same(self, read_deed(unchanged(self, deed_text, deed)), deed)
        same(self, deed_text(("set", "a", (0, 1, -2, 0))), "set a (0 1 -2 0)")
        same(self, deed_text(("word", "b", ())), "word b []")
        same(self, deed_text(("word", "b", (("aa", -1), ("b", 1)))), "word b [aa- b]")
        same(self, [deed_text(("fix", "a")), deed_text(("drop", "b")), deed_text(("call", "a", "b"))], ["fix a", "drop b", "call a b"])

    def test_great_numbers(self):
        great = 10 ** 200
        same(self, deed_text(("set", "a", (great, 1, 0, 1))), "set a (1" + "0" * 200 + " 1 0 1)")
        same(self, read_deed("set a (" + "9" * 200 + " 1 0 1)"), ("set", "a", (great - 1, 1, 0, 1)))
        same(self, read_deed("set a (1 -" + "9" * 200 + " 0 1)"), ("set", "a", (1, 1 - great, 0, 1)))
        for text in ("set a (1" + "0" * 200 + " 1 0 1)", "set a (1 -1" + "0" * 200 + " 0 1)"):
            same(self, told_error(self, BadText, read_deed, text), {"place": 0})

    def test_near_texts(self):
        """Texts of deeds with a sign put in, left out, or exchanged."""
        for deed in self.deeds()[:-1]:
            text = deed_text(deed)
            for k in range(len(text) + 1):
                for sign in " -a1[]()A0;\t~":
                    for near in (text[:k] + sign + text[k:], text[:k] + sign + text[k + 1:], text[:k] + text[k + 1:]):
                        try:
                            found = read_deed(near)
                        except BadText as error:
                            same(self, error.place, 0)
                        else:
                            same(self, deed_text(found), near)

    def test_refused(self):
        values = NEVER + ["set", "set a", "set a ", "set a (1 0 0 1) ", " set a (1 0 0 1)", "set  a (1 0 0 1)", "set a (2 0 0 2)", "set a (-1 0 0 1)",
                          "set a (1 0 0 0)", "set a (01 0 0 1)", "set a (1 -0 0 1)", "set a (1 0 0)", "set a (1 0 0 1 1)", "set a 1 0 0 1", "set A (1 0 0 1)",
                          "set abcdefghi (1 0 0 1)", "set  (1 0 0 1)", "set a  (1 0 0 1)", "set a (1  0 0 1)", "set a [a]", "word a", "word a (1 0 0 1)",
                          "word a [a", "word a a]", "word a [a a-", "word a [ a]", "word a [a ]", "word a [a  a]", "word a [-]", "word a [a--]", "word a [-a]",
                          "word a [ ]", "word a [A]", "word a [a1]", "word a [abcdefghi]", "word a [" + " ".join("a" * 13) + "]", "word a [] ", "word a []]",
                          "word a [[]", "word a [", "word a ]", "word  []", "fix", "fix ", "fix a b", "fix a ", "fix 1", "fix A", "drop", "drop a b", "call a",
                          "call a b c", "call a B", "call  b", "call a ", "undo", "show", "merge main", "fix abcdefghi", "fix a\n", "FIX a", ("fix", "a"),
                          ["fix", "a"], "set a (1/2 0 0 1)", "set a (+1 0 0 1)"]
        for value in values:
            same(self, told_error(self, BadText, read_deed, value), {"place": 0})
        same(self, read_deed("word a [" + " ".join("a" * 12) + "]"), ("word", "a", (("a", 1),) * 12))


class Whole(unittest.TestCase):
    def test_states_stay_states(self):
        for state in STATES:
            deeds = [("set", "b", WIDE), ("word", "m", tuple((name, 1) for name in list(state)[:8])), ("fix", "a"), ("call", "a", "zzz"), ("drop", "x")]
            for deed in deeds:
                try:
                    found = behind(state, deed)
                except (UnknownName, Clash):
                    continue
                self.assertEqual(list(found), sorted(found))
                for name in found:
                    same(self, value_of(found, name), slow_value(found, name))

    def test_states_are_looked_at_whole(self):
        self.assertEqual(len(MIXED) + len(TURNED), 12)
        long = {**CHAIN, "j": word("i", "i")}
        for deed in (("set", "m", MOVE), ("word", "m", ()), ("fix", "a")):
            told_error(self, TooMany, behind, long, deed)
        self.assertEqual(strict(behind(long, ("drop", "j"))), strict(CHAIN))


if __name__ == "__main__":
    unittest.main()
