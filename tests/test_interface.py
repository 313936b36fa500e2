"""The names and arguments of the interface stand in the files under which it lists them."""

import ast
import os
import unittest

PACKAGE = os.path.join(os.path.dirname(os.path.dirname(os.path.abspath(__file__))), "ballmoves")

INTERFACE = {
    "fractions": ["fraction(n, d)", "is_fraction(value)", "plus(x, y)", "minus(x, y)", "times_of(x, y)", "divided(x, y)",
                  "is_less(x, y)"],
    "points": ["point(x, y)", "is_point(value)", "point_of(x)", "fraction_of(p)"],
    "primes": ["is_prime(value)", "primes_of(n)", "parts(p, x)", "rest(p, k, x)"],
    "digits": ["digits(p, x)", "judge_digits(p, value)", "fraction_by(p, value)", "digit(p, x, i)"],
}


def parsed(name):
    with open(os.path.join(PACKAGE, name + ".py")) as file:
        return ast.parse(file.read())


def headings(name):
    """The functions that a file itself defines, as the interface writes them."""
    found = []
    for node in parsed(name).body:
        if isinstance(node, ast.FunctionDef):
            found.append(node.name + "(" + ", ".join(told.arg for told in node.args.args) + ")")
    return found


class Interface(unittest.TestCase):
    def test_functions(self):
        for name, functions in INTERFACE.items():
            defined = headings(name)
            for function in functions:
                self.assertIn(function, defined, name)


if __name__ == "__main__":
    unittest.main()
