"""The names and arguments of the interface stand in the files under which it lists them."""

import ast
import os
import unittest

PACKAGE = os.path.join(os.path.dirname(os.path.dirname(os.path.abspath(__file__))), "ballmoves")

INTERFACE = {
    "fractions": ["fraction(n, d)", "is_fraction(value)", "plus(x, y)", "minus(x, y)", "times_of(x, y)", "divided(x, y)",
                  "is_less(x, y)"],
    "points": ["point(x, y)", "is_point(value)", "point_of(x)", "fraction_of(p)"],
    "primes": ["is_prime(value)", "primes_of(n)", "parts(p, x)", "rest(p, k, x)"],
    "digits": ["digits(p, x)", "judge_digits(p, value)", "fraction_by(p, value)", "digit(p, x, i)"],
    "balls": ["is_ball(p, value)", "ball(p, n, x)", "has(p, ball, x)", "is_in(p, one, other)", "about(p, ball)",
              "within(p, ball)", "neighbours(p, ball)", "least_about(p, one, other)"],
    "roads": ["road(p, one, other)", "steps(p, one, other)", "on_road(p, one, other, k)", "fork(p, one, other, third)",
              "towards(p, ball, point, k)", "is_side(p, value)", "on_side(p, side, ball)", "are_apart(p, one, other)",
              "lies_in(p, one, other)", "least_tree(p, balls)"],
    "middles": ["far(p, balls, ball)", "reach(p, balls)", "middle(p, balls)", "total(p, balls, ball)",
                "least_total(p, balls)", "hang_together(p, balls)", "leaves(p, tree)", "peeled(p, tree)",
                "pieces(p, tree, ball)", "cut(p, tree, side)"],
    "moves": ["move(a, b, c, d)", "is_move(value)", "led_point(m, q)", "after(one, other)", "back(m)", "power(m, n)",
              "size(m)", "sum_of(m)", "three(points, others)"],
    "texts": ["fraction_text(x)", "point_text(q)", "ball_text(ball)", "move_text(m)", "word_text(word)",
              "list_text(moves)", "read_fraction(text)", "read_point(text)", "read_ball(p, text)", "read_move(text)",
              "read_word(text)", "read_list(text)"],
    "leads": ["led(p, m, ball)", "told_at(p, m, ball)", "moving(p, one, other)"],
    "kinds": ["kind(p, m)", "judge_kind(p, m, value)", "stretch(p, m)"],
    "kept": ["on_line(p, m, ball)", "line_from(p, m, ball, k)", "keeps(p, m, ball)", "gate(p, m, ball)",
             "depth(p, m, ball)", "centre(p, m)", "judge_centre(p, m, value)"],
    "ends": ["ends(p, m)", "toward(p, m, ball, n)", "shared_ends(p, m, other)"],
    "words": ["is_word(value, many)", "back_word(word)", "shortened(word)", "joined(one, other)", "words(many, n)",
              "word_move(moves, word)"],
    "rounds": ["parted(word)", "turnings(word)", "root(word)", "turning(one, other)"],
    "places": ["is_place(p, value)", "half_steps(p, one, other)", "keeps_place(p, m, place)", "gate_place(p, m)",
               "gates(p, moves)", "place(p, moves)", "judge_place(p, moves, value)"],
    "common": ["common_balls(p, moves, ball, n)", "nearest_common(p, moves, ball)", "keeping(p, moves, n)"],
    "grids": ["told_by(t, m)", "is_whole_at(t, moves)", "is_same_grid(t, u)", "balls_of(primes, t)", "grid_of(pairs)",
              "grid_form(t)"],
    "whole": ["bad_primes(moves)", "whole(moves)", "judge_whole(moves, value)", "grids_near(moves, n)", "order(m)",
              "orders(moves)"],
    "lines": ["lines(p, g, h)"],
    "sides": ["four_sides(p, g, h)", "judge_sides(p, g, h, value)"],
}


def parsed(name):
    with open(os.path.join(PACKAGE, name + ".py")) as file:
        return ast.parse(file.read())


def headings(name):
    """The functions that a file itself defines, as the interface writes them."""
    found = []
    for node in parsed(name).body:
        if isinstance(node, ast.FunctionDef):
            found.append(node.name + "(" + ", ".join(told.arg for told in node.args.args) + ")")
    return found


class Interface(unittest.TestCase):
    def test_functions(self):
        for name, functions in INTERFACE.items():
            defined = headings(name)
            for function in functions:
                self.assertIn(function, defined, name)


if __name__ == "__main__":
    unittest.main()
