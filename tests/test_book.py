import unittest

from ballmoves.book import hanging, in_turn, length_of, state_text, users, uses, value_of
from ballmoves.errors import UnknownName
from some_states import CHAIN, MIXED, STATE, STATES, STILL, TURNED, letters_of, slow_hanging, slow_used, slow_value, word
from test_moves import is_right
from values import NEVER, deep, same, unchanged

CALLS = (value_of, length_of, uses, users, hanging)


class Names(unittest.TestCase):
    def test_lengths_of_names(self):
        state = {"a": ("move", STILL), "abcdefgh": word("a")}
        same(self, [uses(state, "abcdefgh"), users(state, "a")], [["a"], ["abcdefgh"]])


class Values(unittest.TestCase):
    def test_values(self):
        for state in STATES:
            for name in state:
                found = unchanged(self, value_of, state, name)
                same(self, found, slow_value(state, name))
                self.assertTrue(is_right(found))

    def test_named_values(self):
        same(self, value_of({"a": word()}, "a"), STILL)
        same(self, value_of({"a": ("move", (2, 0, 0, 1)), "b": word("a-"), "c": word("b-", "b-")}, "c"), (4, 0, 0, 1))
        # The last letter's move is done first.
        state = {"a": ("move", (1, 1, 0, 1)), "b": ("move", (2, 0, 0, 1)), "c": word("a", "b"), "d": word("b", "a"), "e": word("c-")}
        same(self, [value_of(state, name) for name in "cde"], [(2, 1, 0, 1), (2, 2, 0, 1), (1, -1, 0, 2)])

    def test_lengths(self):
        for state in STATES:
            for name in state:
                same(self, unchanged(self, length_of, state, name), len(letters_of(state, name)))
        same(self, [length_of(CHAIN, name) for name in "abi"], [1, 2, 256])

    def test_great_words(self):
        # So many letters could not be gone through one by one.
        names = ["n" + chr(97 + k) for k in range(12)]
        state = {"a": word(), **{name: word(*[ahead] * 12) for ahead, name in zip(["a"] + names, names)}}
        same(self, [value_of(state, names[-1]), length_of(state, names[-1])], [STILL, 0])
        state["a"] = ("move", (1, 1, 0, 1))
        same(self, length_of(state, names[-1]), 12 ** 12)
        same(self, value_of(state, names[2]), (1, 12 ** 3, 0, 1))


class Links(unittest.TestCase):
    def test_uses_and_users(self):
        for state in STATES:
            for name in state:
                same(self, unchanged(self, uses, state, name), slow_used(state, name))
                expected = [other for other in sorted(state) if name in slow_used(state, other)]
                same(self, unchanged(self, users, state, name), expected)
                same(self, unchanged(self, hanging, state, name), slow_hanging(state, name))

    def test_new_lists(self):
        for call, name in [(uses, "b"), (uses, "a"), (users, "a"), (hanging, "a"), (hanging, "d")]:
            before = call(STATE, name)
            call(STATE, name).append("x")
            same(self, call(STATE, name), before)
        in_turn(STATE).append("x")
        same(self, in_turn(STATE), ["a", "c", "b", "d"])

    def test_in_turn(self):
        for state in STATES:
            found = unchanged(self, in_turn, state)
            self.assertEqual(sorted(found), sorted(state))
            for k in range(len(found)):
                free = [name for name in state if name not in found[:k] and set(slow_used(state, name)) <= set(found[:k])]
                self.assertEqual(found[k], min(free))
        same(self, in_turn(MIXED), ["abcdefgh", "y", "zz", "z", "b", "x"])
        same(self, in_turn(TURNED), ["d", "c", "b", "a", "ee", "e"])

    def test_unknown_names(self):
        values = [value for value in NEVER] + ["z", "A", "a ", "aa", 0, 1, ("a",), ["a"], {"a": ["b", [1]]}, STATE, (["a", (True,)],)]
        for call in CALLS:
            for state in ({}, STATE):
                for value in values:
                    with self.assertRaises(UnknownName) as caught:
                        unchanged(self, call, state, value)
                    same(self, caught.exception.name, value)
            inner = ["a", {"b": [1]}]
            with self.assertRaises(UnknownName) as caught:
                call(STATE, inner)
            inner[1]["b"].append(2)
            inner.append(3)
            self.assertEqual(deep(caught.exception.name), deep(["a", {"b": [1]}]))


class Texts(unittest.TestCase):
    def test_texts(self):
        same(self, state_text({}), "")
        same(self, unchanged(self, state_text, STATE), "a = (1 1 0 1); c = (0 1 1 0); b = [c a- c]; d = [b b]")
        same(self, state_text(MIXED), "abcdefgh = (999999 -999998 123456 654321); y = []; zz = (2 0 0 1); z = [abcdefgh y zz-]; "
                                      "b = [z z-]; x = [b y-]")
        same(self, state_text(TURNED), "d = (3 1 0 2); c = [d d]; b = [c- d]; a = [b]; ee = []; e = [a ee]")

    def test_great_numbers(self):
        great = 10 ** 3999 + 7
        same(self, state_text({"a": ("move", (great, -1, 0, 1))}), "a = (1" + "0" * 3998 + "7 -1 0 1)")
        same(self, state_text({"a": ("move", (1, -great, 0, 1))}), "a = (1 -1" + "0" * 3998 + "7 0 1)")


if __name__ == "__main__":
    unittest.main()
