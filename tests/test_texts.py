import re
import unittest
from math import gcd

from ballmoves.errors import BadText
from ballmoves.texts import (ball_text, fraction_text, list_text, move_text, point_text, read_ball, read_fraction,
                             read_list, read_move, read_point, read_word, word_text)
from brute import ROOT, tree
from test_moves import MOVES, is_right
from values import NEVER, same, unchanged

GREAT, GREATER = 10 ** 200 - 1, 10 ** 200
FRACTIONS = [(0, 1), (1, 1), (-1, 2), (7, 3), (-12, 1), (10 ** 20 + 1, 10), (-GREAT, 10), (1, GREAT)]
WORDS = [(), ((0, 1),), ((0, -1),), ((0, 1), (12, -1), (3, 1), (3, 1)), ((GREAT, -1), (10, 1))]

INTEGER, COUNT = r"(?:0|-?[1-9][0-9]{0,199})", r"(?:0|[1-9][0-9]{0,199})"
N = r"(?:0|-?[1-9][0-9]{0,2})"
FRACTION = f"{INTEGER}(?:/{COUNT})?"
# A form is ("sign", one), ("text", pattern of the whole, pattern of what it begins with), or made of other forms:
# ("in turn", ..), ("either", ..), ("maybe", form) for once or never, ("some", form) for often or never.
NUMBER = ("text", INTEGER, f"-|{INTEGER}")
RATIO = ("in turn", NUMBER, ("maybe", ("in turn", ("sign", "/"), ("text", COUNT, COUNT))))
LETTER = ("in turn", ("text", COUNT, COUNT), ("maybe", ("sign", "-")))
MOVE = ("in turn", ("sign", "("), NUMBER, ("sign", " "), NUMBER, ("sign", " "), NUMBER, ("sign", " "), NUMBER, ("sign", ")"))
FORMS = {
    "fraction": RATIO,
    "point": ("either", RATIO, ("in turn", ("sign", "f"), ("sign", "a"), ("sign", "r"))),
    "ball": ("in turn", ("sign", "<"), ("text", N, f"-|{N}"), ("sign", " "), RATIO, ("sign", ">")),
    "move": MOVE,
    "word": ("in turn", ("sign", "["), ("maybe", ("in turn", LETTER, ("some", ("in turn", ("sign", " "), LETTER)))),
             ("sign", "]")),
    "list": ("maybe", ("in turn", MOVE, ("some", ("in turn", ("sign", ","), ("sign", " "), MOVE)))),
}
READERS = {"fraction": read_fraction, "point": read_point, "ball": lambda text: read_ball(2, text), "move": read_move,
           "word": read_word, "list": read_list}


def whole(form):
    """The pattern of whole texts of a form."""
    if form[0] == "sign":
        return re.escape(form[1])
    if form[0] == "text":
        return form[1]
    inner = [whole(part) for part in form[1:]]
    if form[0] == "in turn":
        return "".join(inner)
    return "(?:" + "|".join(inner) + ")" + {"maybe": "?", "some": "*", "either": ""}[form[0]]


def begun(form):
    """The pattern of all texts, not empty, that can go on to a whole text of a form."""
    if form[0] == "sign":
        return re.escape(form[1])
    if form[0] == "text":
        return f"(?:{form[2]})"
    if form[0] == "in turn":
        return "(?:" + "|".join("".join(whole(part) for part in form[1:k]) + begun(form[k]) for k in range(1, len(form))) + ")"
    if form[0] == "some":
        return whole(form) + begun(form[1])
    return "(?:" + "|".join(begun(part) for part in form[1:]) + ")"


def place_by_form(name, text):
    """The place that the form alone tells; None if the text is whole."""
    if re.fullmatch(whole(FORMS[name]), text):
        return None
    pattern = re.compile(begun(FORMS[name]))
    return next((k for k in range(len(text)) if not pattern.fullmatch(text[:k + 1])), len(text))


def is_none(text):
    """Whether an element that is whole by its form is none, by 2."""
    numbers = [int(figures) for figures in re.findall("-?[0-9]+", text)]
    if text[0] == "(":
        return not is_right(tuple(numbers))
    if text[0] == "<":
        n, upper, lower = (numbers + [1])[:3]
        power = bin(lower).count("1") == 1
        return not power or upper < 0 or (upper << max(0, -n)) >= (lower << max(0, n))
    upper, lower = (numbers + [1])[:2]
    return "/" in text and (lower < 2 or gcd(upper, lower) > 1)


def elements(name, text):
    """All elements of a text, each with the place behind it."""
    if name == "ball":
        inner = re.match(f"<{N} ({FRACTION})", text)
        if inner:
            yield inner.group(1), inner.end(1)
        outer = re.match(f"<{N} {FRACTION}>", text)
        if outer:
            yield outer.group(0), outer.end()
    elif name in ("fraction", "point"):
        found = re.match(FRACTION, text)
        if found:
            yield found.group(0), found.end()
    elif name != "word":
        for found in re.finditer(r"\([^()]*\)", text):
            yield found.group(0), found.end()


def place(name, text):
    """The place at which a text cannot be read; None if it can."""
    form = place_by_form(name, text)
    for element, end in elements(name, text):
        if form is not None and form < end:
            break
        if is_none(element):
            return end
    return form


def changes_of(text, signs):
    """The text with a sign put in, left out, exchanged, cut off, or something behind it."""
    for k in range(len(text) + 1):
        yield text[:k]
        yield text[:k] + text[k + 1:]
        for sign in signs:
            yield text[:k] + sign + text[k:]
            yield text[:k] + sign + text[k + 1:]
    yield text + text
    yield text + ", " + text
    yield " " + text


class Written(unittest.TestCase):
    def test_named_texts(self):
        self.assertEqual([fraction_text((-1, 2)), fraction_text((4, 1)), fraction_text((0, 1))], ["-1/2", "4", "0"])
        self.assertEqual([point_text((1, 0)), point_text((1, 1)), point_text((-3, 7))], ["far", "1", "-3/7"])
        self.assertEqual([ball_text((-2, (1, 16))), ball_text((0, (0, 1))), ball_text((3, (7, 1)))], ["<-2 1/16>", "<0 0>", "<3 7>"])
        self.assertEqual(move_text((0, 1, -2, 0)), "(0 1 -2 0)")
        self.assertEqual([word_text(((0, 1), (12, -1))), word_text(()), word_text(((3, -1),))], ["[0 12-]", "[]", "[3-]"])
        self.assertEqual([list_text([]), list_text([(1, 1, 0, 1)]), list_text(((1, 1, 0, 1), (0, 1, 1, 0)))],
                         ["", "(1 1 0 1)", "(1 1 0 1), (0 1 1 0)"])

    def test_great_numbers(self):
        for many in (59, 60, 61, 119, 120, 121, 200, 4000, 4301, 9000):
            nines, zeros = "9" * many, "1" + "0" * many
            self.assertEqual(fraction_text((10 ** many - 1, 1)), nines)
            self.assertEqual(fraction_text((-10 ** many, 1)), "-" + zeros)
            self.assertEqual(move_text((10 ** many, 1 - 10 ** many, 1, 0)), "(" + zeros + " -" + nines + " 1 0)")
            self.assertEqual(fraction_text((1, 10 ** many)), "1/" + zeros)
            self.assertEqual(ball_text((-1, (1, 10 ** many))), "<-1 1/" + zeros + ">")
            self.assertEqual(word_text(((10 ** many, -1),)), "[" + zeros + "-]")


class ReadBack(unittest.TestCase):
    def test_fractions_and_points(self):
        for x in FRACTIONS:
            same(self, read_fraction(fraction_text(x)), x)
            same(self, read_point(point_text(x)), x)
        same(self, read_point("far"), (1, 0))

    def test_balls(self):
        for p in (2, 3, 97):
            for one in list(tree(p, ROOT, 2)) + [(40, (12345, 1)), (-40, (5, p ** 43)), (999, (GREAT, 1)), (-999, (0, 1))]:
                same(self, read_ball(p, ball_text(one)), one)

    def test_moves_and_lists(self):
        for m in MOVES + [(GREAT, 1, -GREAT, 1)]:
            same(self, read_move(move_text(m)), m)
            same(self, read_list(move_text(m)), [m])
        for many in range(len(MOVES)):
            same(self, read_list(unchanged(self, list_text, MOVES[:many])), MOVES[:many])
        self.assertIsNot(read_list(""), read_list(""))

    def test_words(self):
        for word in WORDS:
            same(self, read_word(word_text(word)), word)


class BadTexts(unittest.TestCase):
    def assert_place(self, name, text, expected):
        with self.assertRaises(BadText) as caught:
            READERS[name](text)
        self.assertEqual(caught.exception.place, expected, (name, text))

    def test_no_string(self):
        for name, reader in READERS.items():
            for value in NEVER + [0, 1, ["1"], ("1",), {"1": 1}, (1, 0, 0, 1), [(1, 0, 0, 1)], (0, (0, 1))]:
                if not isinstance(value, str):
                    with self.assertRaises(BadText) as caught:
                        unchanged(self, reader, value)
                    self.assertEqual(caught.exception.place, 0)

    def test_any_change(self):
        texts = {"fraction": ["-12/7", "0", "5", "2/3"], "point": ["far", "-1/2", "3"], "ball": ["<1 3/2>", "<-2 1/16>", "<10 0>"],
                 "move": ["(0 1 -2 0)", "(12 -5 3 1)"], "word": ["[]", "[0 12-]", "[3- 3 0-]"],
                 "list": ["", "(1 1 0 1)", "(1 0 0 1), (0 1 -2 0)"]}
        for name, some in texts.items():
            for text in some:
                for changed in changes_of(text, "0129-/ ,()[]<>far\n~"):
                    self.read_or_refuse(name, changed)

    def read_or_refuse(self, name, text):
        expected = place(name, text)
        if expected is None:
            writers = {"fraction": fraction_text, "point": point_text, "ball": ball_text, "move": move_text,
                       "word": word_text, "list": list_text}
            self.assertEqual(writers[name](READERS[name](text)), text)
        else:
            self.assert_place(name, text, expected)

    def test_signs(self):
        for name, text, at in [
                ("fraction", "", 0), ("fraction", "-", 1), ("fraction", "+1", 0), ("fraction", " 1", 0), ("fraction", "1 ", 1),
                ("fraction", "1/", 2), ("fraction", "1/-2", 2), ("fraction", "1/2/3", 3), ("fraction", "--1", 1),
                ("fraction", "1.5", 1), ("fraction", "far", 0), ("fraction", "1/ 2", 2), ("point", "", 0), ("point", "f", 1),
                ("point", "fa", 2), ("point", "fr", 1), ("point", "farr", 3), ("point", "Far", 0), ("point", "-far", 1),
                ("point", "1far", 1), ("ball", "", 0), ("ball", "<", 1), ("ball", "<1", 2), ("ball", "<1 ", 3),
                ("ball", "<1 1", 4), ("ball", "<1 1> ", 5), ("ball", "<1  1>", 3), ("ball", "<1 1/>", 5), ("ball", "1 1", 0),
                ("ball", "<1 1/-2>", 5), ("move", "(1 0 0 1", 8), ("move", "(1 0 0)", 6), ("move", "(1 0 0 1 1)", 8),
                ("move", "(1 0 0 1) ", 9), ("move", "(1  0 0 1)", 3), ("move", "( 1 0 0 1)", 1), ("move", "(1 0 0 1/2)", 8),
                ("move", "", 0), ("word", "", 0), ("word", "[", 1), ("word", "[ ]", 1), ("word", "[0 ]", 3), ("word", "[0--]", 3),
                ("word", "[-0]", 1), ("word", "[0- -1]", 4), ("word", "[0", 2), ("word", "[0-", 3), ("word", "[0] ", 3),
                ("word", "[0  1]", 3), ("list", " ", 0), ("list", "(1 0 0 1),", 10), ("list", "(1 0 0 1), ", 11),
                ("list", "(1 0 0 1),(1 0 0 1)", 10), ("list", "(1 0 0 1) (1 0 0 1)", 9), ("list", ",", 0),
                ("list", "(1 0 0 1), (1 0  0 1)", 16)]:
            self.assert_place(name, text, at)

    def test_figures(self):
        for name, text, at in [
                ("fraction", "01", 1), ("fraction", "00", 1), ("fraction", "-0", 1), ("fraction", "-01", 1), ("fraction", "3/02", 3),
                ("fraction", "1" * 201, 200), ("fraction", "-" + "1" * 201, 201), ("fraction", "1/" + "2" * 201, 202),
                ("point", "007", 1), ("point", "3" * 201 + "/2", 200), ("ball", "<01 0>", 2), ("ball", "<-0 0>", 2),
                ("ball", "<1000 0>", 4), ("ball", "<-1000 0>", 5), ("ball", "<1 01>", 4), ("ball", "<999 " + "1" * 201 + ">", 205),
                ("move", "(01 0 0 1)", 2), ("move", "(1 -0 0 1)", 4), ("move", "(1 " + "2" * 201 + " 0 1)", 203),
                ("word", "[00]", 2), ("word", "[01]", 2), ("word", "[" + "1" * 201 + "]", 201), ("list", "(1 0 0 1), (1 00 0 1)", 15)]:
            self.assert_place(name, text, at)
        same(self, read_fraction("1" * 200 + "/" + "1" * 199 + "2"), (int("1" * 200), int("1" * 199 + "2")))
        same(self, read_fraction("-" + "1" * 200), (-int("1" * 200), 1))
        same(self, read_word("[" + "1" * 200 + "-]"), ((int("1" * 200), -1),))

    def test_whole_and_yet_none(self):
        for name, text, at in [
                ("fraction", "2/4", 3), ("fraction", "1/0", 3), ("fraction", "1/1", 3), ("fraction", "0/1", 3), ("fraction", "0/2", 3),
                ("fraction", "2/4x", 3), ("fraction", "-6/10/", 5), ("fraction", "1/00", 3), ("point", "1/0", 3), ("point", "2/4", 3),
                ("ball", "<1 2/4>", 6), ("ball", "<1 1/1", 6), ("ball", "<1 5>", 5), ("ball", "<1 5>x", 5), ("ball", "<1 2>", 5),
                ("ball", "<1 -1>", 6), ("ball", "<1 1/3>", 7), ("ball", "<0 1>", 5), ("ball", "<-1 1/2>", 8), ("ball", "<5 1/0", 6),
                ("move", "(2 0 0 2)", 9), ("move", "(2 0 0 2)x", 9), ("move", "(0 0 0 0)", 9), ("move", "(-1 0 0 1)", 10),
                ("move", "(0 -1 1 0)", 10), ("move", "(1 1 1 1)", 9), ("list", "(2 0 0 2), (1 0 0 1)", 9),
                ("list", "(1 0 0 1), (2 0 0 2), (3 0 0 3)", 20), ("list", "(1 0 0 1), (2 0 0 2)x", 20),
                ("list", "(2 0 0 2), (1 0  0 1)", 9)]:
            self.assert_place(name, text, at)

    def test_by_another_prime(self):
        same(self, read_ball(3, "<1 2>"), (1, (2, 1)))
        same(self, read_ball(7, "<1 5>"), (1, (5, 1)))
        with self.assertRaises(BadText) as caught:
            read_ball(3, "<1 1/2>")
        self.assertEqual(caught.exception.place, 7)


if __name__ == "__main__":
    unittest.main()
