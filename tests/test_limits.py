"""[1.5], [1.8]: pieces of 400 and 401 nodes, and of 30 and 31 levels."""

import unittest

from doppelganger.errors import TooLarge
from doppelganger.names import check_piece
from doppelganger.terms import nodes
from helpers import (
    ONE, OUTSIDE_LEVELS, PLAIN, PLACES, SKIP, error_of, outside, program, row_of, row_with_nodes, sum_of, wrapped,
)


def tree_with_nodes(count):
    """An expression of `count` nodes, which is odd, with few levels."""
    if count == 1:
        return ONE
    left = (count - 1) // 2
    left += 1 - left % 2
    return ("add", tree_with_nodes(left), tree_with_nodes(count - 1 - left))


class NodesLimitTest(unittest.TestCase):
    def assert_size(self, kind, term, count):
        self.assertEqual(len(nodes(term, kind)), count)
        self.assertIs(error_of(check_piece, program(kind, term)), TooLarge if count > 400 else None)

    def test_rows(self):
        for count in (398, 399, 400, 401, 402, 403):
            with self.subTest(count):
                self.assert_size("com", ("new", "x", ONE, row_with_nodes(count - 2)), count)

    def test_rows_of_about_400_steps(self):
        for steps in (199, 200, 201, 399, 400, 401, 500):
            with self.subTest(steps):
                self.assert_size("com", row_of([SKIP] * steps), 2 * steps - 1)

    def test_trees(self):
        for count in (397, 399, 401):
            self.assert_size("exp", tree_with_nodes(count), count)
            self.assert_size("com", ("new", "x", tree_with_nodes(count), SKIP), count + 2)
        self.assert_size("exp", ("do", SKIP, ("do", SKIP, tree_with_nodes(395))), 399)
        self.assert_size("com", ("block", "k", ("new", "x", tree_with_nodes(397), SKIP)), 400)
        self.assert_size("com", ("block", "k", ("new", "x", tree_with_nodes(397), ("set", "x", ONE))), 401)

    def test_nodes_in_arguments_and_bodies(self):
        params = (("a", "com"), ("b", "val"))
        for count in (399, 400, 401, 402):
            row = ("new", "x", ONE, row_with_nodes(count - 6))
            call = ("call", "f", (("com", row), ("exp", ONE)))
            self.assert_size("com", ("proc", "f", params, "com", SKIP, call), count)
            plain = ("call", "f", (("com", SKIP), ("exp", ONE)))
            self.assert_size("com", ("proc", "f", params, "com", ("new", "x", ONE, row_with_nodes(count - 6)), plain), count)

    def test_declarations_do_not_count(self):
        decls = tuple((name, ("com", "val"), "exp") for name in "abc")
        self.assertIsNone(check_piece((decls, "com", ("new", "x", ONE, row_with_nodes(398)))))
        self.assertIs(error_of(check_piece, (decls, "com", ("new", "x", ONE, row_with_nodes(399)))), TooLarge)


class LevelsLimitTest(unittest.TestCase):
    def levels_of(self, kind, term):
        return max(level for _, _, level in nodes(term, kind))

    def assert_levels(self, kind, term, levels):
        self.assertEqual(self.levels_of(kind, term), levels)
        piece = outside(kind, term)
        self.assertIs(error_of(check_piece, piece), TooLarge if levels + OUTSIDE_LEVELS > 30 else None)

    def test_each_place(self):
        for name, kind, part_kind, wrap in PLACES:
            deeper = {"com": lambda t: ("block", "l", t), "exp": lambda t: ("add", t, ONE)}[part_kind]
            for levels in (30, 31):
                deep = wrapped(deeper, levels - OUTSIDE_LEVELS - 2, PLAIN[part_kind])
                with self.subTest(place=name, levels=levels):
                    self.assert_levels(kind, wrap(deep), levels - OUTSIDE_LEVELS)

    def test_each_form_many_times(self):
        for name, kind, part_kind, wrap in PLACES:
            if kind == part_kind and name not in ("seq first", "seq second"):
                for times in (24, 25):
                    with self.subTest(place=name, times=times):
                        self.assert_levels(kind, wrapped(wrap, times, PLAIN[kind]), times + 1)

    def test_forms_of_both_kinds_by_turns(self):
        for wrap in [
            lambda t: ("do", ("set", "x", t), ONE), lambda t: ("do", ("while", t, SKIP), ONE),
            lambda t: ("do", ("call", "cec", (("exp", t), ("com", SKIP))), ONE),
            lambda t: ("call", "ec", (("com", ("set", "x", t)),)),
            lambda t: ("proc", "g", (), "com", ("set", "x", t), ONE),
        ]:
            for times in (12, 13):
                with self.subTest(term=wrap(ONE), times=times):
                    self.assert_levels("exp", wrapped(wrap, times, ONE), 2 * times + 1)

    def test_sums(self):
        for count in (29, 30, 31, 32, 200):
            self.assertIs(error_of(check_piece, program("exp", sum_of(count))), TooLarge if count > 30 else None)

    def test_rows_at_the_last_levels(self):
        pair = row_of([SKIP] * 100)
        for times in (28, 29):
            term = wrapped(lambda t: ("block", "k", t), times, pair)
            self.assertIs(error_of(check_piece, program("com", term)), TooLarge if times == 29 else None)

    def test_rows_of_rows_take_one_level(self):
        term = row_of([SKIP] * 190)
        self.assertIsNone(check_piece(program("com", term)))
        self.assertEqual(self.levels_of("com", term), 2)

    def test_long_pieces_beyond_the_limits(self):
        for count in (401, 1000, 5000):
            self.assertIs(error_of(check_piece, program("com", row_of([SKIP] * count))), TooLarge)
            self.assertIs(error_of(check_piece, program("exp", sum_of(count))), TooLarge)


if __name__ == "__main__":
    unittest.main()
