import inspect
import unittest

from ballmoves import errors
from values import deep

WITHOUT = ["BadPoint", "BadMove", "BadBall", "BadDigits", "FarPoint", "SamePoints", "NotKept", "NotOnLine", "NoEnds",
           "TooMany", "BadDeed", "NothingDone"]
WITH = {"TooGreat": "prime", "NotStretching": "number", "BadText": "place", "BadName": "name", "Clash": "names",
        "Ring": "names"}
MISSING = {"UnknownName": "name", "NoMoment": "number"}


def error_classes():
    return {name: value for name, value in vars(errors).items() if inspect.isclass(value)}


def boxes_of(value):
    """All lists and dicts in a value."""
    found = [value] if isinstance(value, (list, dict)) else []
    if isinstance(value, (list, tuple)):
        for part in value:
            found += boxes_of(part)
    if isinstance(value, dict):
        for key in value:
            found += boxes_of(value[key])
    return found


def nested():
    inner = [4, True]
    return [1, {"a": [2, (3, inner)], "b": inner}, ([False], "x", None), {}, []]


class Errors(unittest.TestCase):
    def test_all_are_there_and_no_more(self):
        names = ["BallError", "Missing"] + WITHOUT + list(WITH) + list(MISSING)
        self.assertEqual(sorted(error_classes()), sorted(names))

    def test_which_lie_beneath_which(self):
        found = error_classes()
        self.assertEqual(found["BallError"].__bases__, (ValueError,))
        self.assertEqual(found["Missing"].__bases__, (LookupError,))
        for name in WITHOUT + list(WITH):
            self.assertEqual(found[name].__bases__, (errors.BallError,), name)
        for name in MISSING:
            self.assertEqual(found[name].__bases__, (errors.Missing,), name)

    def test_no_other_two_lie_beneath_one_another(self):
        found = error_classes()
        for one in found:
            for other in found:
                beneath = one == other or found[other] in found[one].__bases__
                self.assertEqual(issubclass(found[one], found[other]), beneath, (one, other))

    def test_without_arguments_they_bear_nothing(self):
        for name in WITHOUT:
            self.assertEqual(vars(error_classes()[name]()), {}, name)

    def test_what_they_bear(self):
        for name, borne in {**WITH, **MISSING}.items():
            for value in (0, 101, -1, "ab", True, None, ("a", "b"), ["a", None], {"a": [1]}):
                error = error_classes()[name](value)
                self.assertEqual([(key, deep(told)) for key, told in vars(error).items()], [(borne, deep(value))])

    def test_copies_at_any_depth(self):
        for name, borne in {**WITH, **MISSING}.items():
            for value in (nested(), tuple(nested()), {"k": nested()}):
                before = deep(value)
                told = getattr(error_classes()[name](value), borne)
                self.assertEqual(deep(told), before)
                self.assertEqual(deep(value), before)
                passed, copies = boxes_of(value), boxes_of(told)
                self.assertFalse({id(box) for box in passed} & {id(box) for box in copies})
                self.assertEqual(len({id(box) for box in copies}), len(copies))
                for box in passed:
                    box.clear()
                self.assertEqual(deep(told), before)

    def test_thirty_within_one_another(self):
        value = 1
        for k in range(30):
            value = [value] if k % 3 == 0 else ((value,) if k % 3 == 1 else {"a": value})
        self.assertEqual(deep(errors.BadName(value).name), deep(value))

    def test_they_are_raised_and_caught(self):
        with self.assertRaises(errors.BallError):
            raise errors.Clash(("a",))
        with self.assertRaises(ValueError):
            raise errors.TooMany()
        with self.assertRaises(LookupError):
            raise errors.UnknownName("a")


if __name__ == "__main__":
    unittest.main()
