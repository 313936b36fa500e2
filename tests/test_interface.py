"""The names and arguments of the interface stand in the files under which it lists them."""

import ast
import os
import unittest

PACKAGE = os.path.join(os.path.dirname(os.path.dirname(os.path.abspath(__file__))), "ballmoves")

INTERFACE = {
    "fractions": ["fraction(n, d)", "is_fraction(value)", "plus(x, y)", "minus(x, y)", "times_of(x, y)", "divided(x, y)",
                  "is_less(x, y)"],
    "points": ["point(x, y)", "is_point(value)", "point_of(x)", "fraction_of(p)"],
    "primes": ["is_prime(value)", "primes_of(n)", "parts(p, x)", "rest(p, k, x)"],
    "digits": ["digits(p, x)", "judge_digits(p, value)", "fraction_by(p, value)", "digit(p, x, i)"],
    "balls": ["is_ball(p, value)", "ball(p, n, x)", "has(p, ball, x)", "is_in(p, one, other)", "about(p, ball)",
              "within(p, ball)", "neighbours(p, ball)", "least_about(p, one, other)"],
    "roads": ["road(p, one, other)", "steps(p, one, other)", "on_road(p, one, other, k)", "fork(p, one, other, third)",
              "towards(p, ball, point, k)", "is_side(p, value)", "on_side(p, side, ball)", "are_apart(p, one, other)",
              "lies_in(p, one, other)", "least_tree(p, balls)"],
    "middles": ["far(p, balls, ball)", "reach(p, balls)", "middle(p, balls)", "total(p, balls, ball)",
                "least_total(p, balls)", "hang_together(p, balls)", "leaves(p, tree)", "peeled(p, tree)",
                "pieces(p, tree, ball)", "cut(p, tree, side)"],
    "moves": ["move(a, b, c, d)", "is_move(value)", "led_point(m, q)", "after(one, other)", "back(m)", "power(m, n)",
              "size(m)", "sum_of(m)", "three(points, others)"],
    "texts": ["fraction_text(x)", "point_text(q)", "ball_text(ball)", "move_text(m)", "word_text(word)",
              "list_text(moves)", "read_fraction(text)", "read_point(text)", "read_ball(p, text)", "read_move(text)",
              "read_word(text)", "read_list(text)"],
    "leads": ["led(p, m, ball)", "told_at(p, m, ball)", "moving(p, one, other)"],
    "kinds": ["kind(p, m)", "judge_kind(p, m, value)", "stretch(p, m)"],
    "kept": ["on_line(p, m, ball)", "line_from(p, m, ball, k)", "keeps(p, m, ball)", "gate(p, m, ball)",
             "depth(p, m, ball)", "centre(p, m)", "judge_centre(p, m, value)"],
    "ends": ["ends(p, m)", "toward(p, m, ball, n)", "shared_ends(p, m, other)"],
    "words": ["is_word(value, many)", "back_word(word)", "shortened(word)", "joined(one, other)", "words(many, n)",
              "word_move(moves, word)"],
    "rounds": ["parted(word)", "turnings(word)", "root(word)", "turning(one, other)"],
    "places": ["is_place(p, value)", "half_steps(p, one, other)", "keeps_place(p, m, place)", "gate_place(p, m)",
               "gates(p, moves)", "place(p, moves)", "judge_place(p, moves, value)"],
    "common": ["common_balls(p, moves, ball, n)", "nearest_common(p, moves, ball)", "keeping(p, moves, n)"],
    "grids": ["told_by(t, m)", "is_whole_at(t, moves)", "is_same_grid(t, u)", "balls_of(primes, t)", "grid_of(pairs)",
              "grid_form(t)"],
    "whole": ["bad_primes(moves)", "whole(moves)", "judge_whole(moves, value)", "grids_near(moves, n)", "order(m)",
              "orders(moves)"],
    "lines": ["lines(p, g, h)"],
    "sides": ["four_sides(p, g, h)", "judge_sides(p, g, h, value)"],
    "shorten": ["changed(changes)", "shorten(p, g, h)", "judge_shorten(p, g, h, value)"],
    "lists": ["kept_points(m)", "kept_by_all(moves)", "shift(p, m, point)", "list_kind(p, moves)",
              "judge_list(p, moves, value)"],
    "spelling": ["tight(p, g, h, sides)", "spelled(p, g, h, sides, ball)"],
    "many": ["judge_many(p, moves, value)", "many_sides(p, moves)", "tight_many(p, moves, sides)",
             "spelled_many(p, moves, sides, ball)", "outside(p, sides)", "word_of(p, moves, sides, m)",
             "told_over(p, moves, sides, others)", "grown(p, g, h, sides, n)"],
    "counts": ["balls_at(p, n)", "meets(p, one, other, n, k)", "kept_at(p, m, ball, n)", "kept_within(p, m, ball, n)",
               "from_some(p, m, ball)"],
    "orbits": ["orbit(p, moves, ball, most)", "leading(p, moves, one, other, most)",
               "judge_leading(p, moves, one, other, value)", "reached(p, moves, ball, n, most)",
               "lots(p, moves, balls, most)"],
    "loads": ["is_load(p, value)", "load(p, rows)", "joined_loads(p, one, n, other)", "weight(load, ball)",
              "led_load(p, m, load)", "spread(p, load, n)", "rule(p, n, k)", "walks(p, way, n)", "gathered(p, load)"],
    "book": ["value_of(state, name)", "length_of(state, name)", "uses(state, name)", "users(state, name)",
             "hanging(state, name)", "in_turn(state)", "state_text(state)"],
    "deeds": ["behind(state, deed)", "deed_text(deed)", "read_deed(text)"],
    "house": ["would_stand(house, deeds)", "tried(house, deeds)", "changed(house, one, other)"],
}

CLASSES = {
    ("house", "House"): ["__init__(self)", "do(self, deed)", "undo(self)", "redo(self)", "branch(self, name)",
                         "go(self, name)", "present(self)", "state(self)", "state_at(self, number)", "__len__(self)",
                         "here(self)", "branches(self)", "trail(self, name)", "place(self, name)", "log(self)",
                         "merge(self, name)", "twin(self)", "__eq__(self, other)"],
    ("console", "Console"): ["__init__(self)", "house(self)", "say(self, line)"],
}


def parsed(name):
    with open(os.path.join(PACKAGE, name + ".py")) as file:
        return ast.parse(file.read())


def headings(body):
    """The functions that a file or a class itself defines, as the interface writes them."""
    found = []
    for node in body:
        if isinstance(node, ast.FunctionDef):
            found.append(node.name + "(" + ", ".join(told.arg for told in node.args.args) + ")")
    return found


class Interface(unittest.TestCase):
    def test_functions(self):
        for name, functions in INTERFACE.items():
            defined = headings(parsed(name).body)
            for function in functions:
                self.assertIn(function, defined, name)

    def test_classes(self):
        for (name, told), methods in CLASSES.items():
            classes = [node for node in parsed(name).body if isinstance(node, ast.ClassDef) and node.name == told]
            self.assertEqual(len(classes), 1)
            defined = headings(classes[0].body)
            for method in methods:
                self.assertIn(method, defined, told)


if __name__ == "__main__":
    unittest.main()
