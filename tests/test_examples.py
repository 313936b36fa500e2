"""Each example of the interface, as it is printed there: tests/examples has one file for each heading."""

import os
import unittest

FOLDER = os.path.join(os.path.dirname(os.path.abspath(__file__)), "examples")

# The order of the interface: later examples use the names that earlier ones set.
HEADINGS = ["errors", "fractions", "points", "primes", "digits", "balls", "roads", "middles", "moves", "texts", "leads",
            "kinds", "kept", "ends", "words", "rounds", "places", "common", "grids", "whole", "lines", "sides",
            "shorten", "lists", "spelling", "many", "counts", "orbits", "loads", "book", "deeds", "house", "console"]


def read_examples(heading):
    """The pairs of a line and what is printed behind it."""
    with open(os.path.join(FOLDER, heading + ".txt")) as file:
        lines = file.read().splitlines()
    examples = []
    for line in lines:
        if line.startswith(">>> "):
            examples.append([line[4:], ""])
        else:
            examples[-1][1] += line
    return examples


def error_text(error):
    told = ", ".join(f"{name}={value!r}" for name, value in vars(error).items())
    return f"raises {type(error).__name__}({told})"


def run(source, names):
    """What the line would print."""
    try:
        code = compile(source, "example", "eval")
    except SyntaxError:
        exec(source, names)
        return ""
    try:
        return repr(eval(code, names))
    except (ValueError, LookupError) as error:
        return error_text(error)


class Examples(unittest.TestCase):
    def test_all(self):
        names = {}
        for heading in HEADINGS:
            examples = read_examples(heading)
            self.assertTrue(examples)
            for source, printed in examples:
                with self.subTest(heading=heading, source=source):
                    self.assertEqual(run(source, names), printed)

    def test_each_file_is_run(self):
        self.assertEqual(sorted(os.listdir(FOLDER)), sorted(heading + ".txt" for heading in HEADINGS))


if __name__ == "__main__":
    unittest.main()
