"""[4.4], [4.7]: unfolded terms, and pieces beyond the border."""

import copy
import sys
import unittest

import reference_plays
from doppelganger.errors import TooLarge
from doppelganger.names import check_piece
from doppelganger.reader import read_piece
from doppelganger.terms import nodes
from doppelganger.unfold import is_beyond, unfolded_size
from generate import leaving_pieces, lively_pieces, pieces, playful_pieces
from helpers import ONE, SKIP, error_of, row_of, row_with_nodes, sum_of
from reference import error_of_piece
from reference_runs import deeply


def size_of(text):
    return unfolded_size(read_piece(text))


class SizeTest(unittest.TestCase):
    def assert_sizes(self, cases):
        for text, size in cases:
            with self.subTest(text):
                self.assertEqual(size_of(text), size)

    def test_terms_without_procedures(self):
        for piece in pieces(300, 4):
            words = [term[0] for _, term, _ in nodes(piece[2], piece[1])]
            if error_of(check_piece, piece) is None and "proc" not in words:
                self.assertEqual(unfolded_size(piece), len(words))

    def test_calls(self):
        self.assert_sizes([
            ("|- com : proc p() : com { skip; skip } { skip }", 1),
            ("|- com : proc p() : com { skip; skip } { p }", 3),
            ("|- com : proc p() : com { skip; skip } { p; p }", 7),
            ("|- com : proc p() : com { skip; skip } { p; if 1 { p } { p } }", 3 + 1 + 8),
            ("|- exp : proc p() : exp [ 1 + 2 ] [ p * p ]", 7),
            ("p : com |- com : p; p", 3),
            ("f(com, exp) : com |- com : f({ skip; skip }, 1)", 5),
        ])

    def test_parameters(self):
        self.assert_sizes([
            ("|- com : proc f(a : com) : com { a } { f({ skip; skip }) }", 3),
            ("|- com : proc f(a : com) : com { skip } { f({ skip; skip }) }", 1),
            ("|- com : proc f(a : com) : com { a; a; a } { f({ skip; skip }) }", 11),
            ("|- exp : proc f(a : exp) : exp [ a + a ] [ f(1 + 2) ]", 7),
            ("|- exp : proc f(a : exp) : exp [ 1 ] [ f(1 + 2) ]", 1),
            ("|- exp : proc f(a : val) : exp [ a + a ] [ f(1 + 2) ]", 1 + 3 + 3),
            ("|- exp : proc f(a : val) : exp [ 1 ] [ f(1 + 2) ]", 1 + 3 + 1),
            ("|- exp : proc f(a : val, b : val) : exp [ a ] [ f(1 + 2, 0) ]", 1 + 3 + 1 + 1 + 1),
            ("|- exp : proc f(a : val, b : exp) : exp [ b ] [ f(1 + 2, 0 - 1) ]", 1 + 3 + 3),
            ("|- com : proc f(a : val) : com { a := 2 } { f(1); f(2) }", 9),
            ("c(com) : com |- com : proc f(a : com) : com { c({ a; a }) } { f({ skip }) }", 4),
        ])

    def test_procedures_in_procedures(self):
        self.assert_sizes([
            ("|- com : proc p() : com { skip } { proc q() : com { p; p } { q; q } }", 7),
            ("|- com : proc p() : com { proc q() : com { skip; skip } { q; q } } { p }", 7),
            ("|- com : proc f(a : com) : com { a; a } { proc g(b : com) : com { f({ b; b }) } { g({ skip }) } }", 7),
            ("|- com : proc f(a : com) : com { a; a } { f({ f({ f({ skip }) }) }) }", 15),
            ("|- exp : proc f(a : exp) : exp [ a + a ] [ f(f(f(1))) ]", 15),
            ("|- exp : proc f(a : val) : exp [ a + a ] [ f(f(f(1))) ]", 1 + 3 + 1 + 3 + 1 + 3 + 1),
            ("|- com : proc f(a : com, b : com) : com { a; b; a } { f({ f({ skip }, { stop }) }, { fault }) }",
             2 + 5 + 1 + 5),
        ])

    def doubling(self, times, body="x"):
        """A piece whose unfolded term doubles with each of its calls."""
        names = "abcdefghijkmnopqrstuvwyz"[:times]
        text = "proc ab(x : exp) : exp [ x ] [ "
        for before, name in zip(["ab"] + list(names), names):
            text += f"proc {name}(x : exp) : exp [ {before}({body}) + {before}({body}) ] [ "
        return text + f"{names[-1]}(1)" + " ]" * (times + 1)

    def test_terms_that_double(self):
        for times in (1, 2, 5, 6, 7):
            self.assertEqual(size_of("|- exp : " + self.doubling(times)), 2 ** (times + 1) - 1)
        for times in (8, 9, 15, 22):
            self.assertIs(error_of(size_of, "|- exp : " + self.doubling(times)), TooLarge)
            self.assertIs(error_of(is_beyond, read_piece("|- exp : " + self.doubling(times))), TooLarge)

    def test_what_is_not_used_may_be_large(self):
        large = self.doubling(16)
        for text, size in [
            (f"proc zz() : exp [ {large} ] [ 1 ]", 1),
            (f"proc zz(x : exp) : exp [ 2 ] [ 1 + zz({large}) ]", 3),
            (f"proc zz(x : exp) : exp [ 2 ] [ proc xx() : exp [ zz({large}) ] [ xx + xx ] ]", 3),
        ]:
            self.assertEqual(size_of("|- exp : " + text), size)
        for text in [f"proc zz(x : val) : exp [ 2 ] [ zz({large}) ]", f"proc zz(x : exp) : exp [ x ] [ zz({large}) ]",
                     f"proc zz() : exp [ {large} ] [ zz ]", f"if 0 [ {large} ] [ 1 ]"]:
            self.assertIs(error_of(size_of, "|- exp : " + text), TooLarge)

    def test_exactly_400_nodes(self):
        for count in (398, 399, 400, 401, 402):
            error = TooLarge if count > 400 else None
            term = ("new", "x", ONE, row_with_nodes(count - 2))
            for piece in [
                ((), "com", ("proc", "p", (), "com", SKIP, term)),
                ((), "com", ("proc", "p", (("a", "com"),), "com", ("call", "a", ()), ("call", "p", (("com", term),)))),
                ((), "com", ("proc", "p", (), "com", term, ("call", "p", ()))),
            ]:
                self.assertIs(error_of(unfolded_size, piece), error)
                self.assertIs(error_of(is_beyond, piece), error)
                if count <= 400:
                    self.assertEqual(unfolded_size(piece), count)

    def test_rows_of_exactly_400_nodes(self):
        for count in (398, 399, 400, 401, 402):
            row = row_of([("block", "k", SKIP)] + [SKIP] * ((count - 2) // 2)) if count % 2 == 0 else row_with_nodes(count)
            for term in [row, ("proc", "p", (), "com", SKIP, row), ("proc", "p", (), "com", row, ("call", "p", ()))]:
                piece = ((), "com", term)
                self.assertIs(error_of(unfolded_size, piece), TooLarge if count > 400 else None)
                if count <= 400:
                    self.assertEqual(unfolded_size(piece), count)

    def test_exactly_400_nodes_by_calls(self):
        for count in (199, 200, 201):
            # The argument comes twice, with a sum around both.
            arg = tree(count)
            piece = ((), "exp", ("proc", "p", (("a", "exp"),), "exp", ("add", ("call", "a", ()), ("call", "a", ())),
                                 ("call", "p", (("exp", arg),))))
            size = 1 + 2 * len(nodes(arg, "exp"))
            self.assertIs(error_of(unfolded_size, piece), TooLarge if size > 400 else None)
        # Rows: the steps of both calls become one row.
        for steps in (66, 67, 68):
            body = row_of([SKIP] * steps)
            piece = ((), "com", ("proc", "p", (), "com", body, row_of([("call", "p", ())] * 3)))
            size = 6 * steps - 1
            self.assertIs(error_of(unfolded_size, piece), TooLarge if size > 400 else None)
            if size <= 400:
                self.assertEqual(unfolded_size(piece), size)

    def test_deep_terms(self):
        text = "proc f(a : exp) : exp [ 1 + (1 + (1 + (1 + (1 + (1 + a))))) ] [ "
        piece = read_piece("|- exp : " + text + "f(" * 20 + "1" + ")" * 20 + " ]")
        self.assertEqual(unfolded_size(piece), 241)
        self.assertIs(is_beyond(piece), False)
        self.assertIs(error_of(unfolded_size, ((), "exp", sum_of(201))), TooLarge)
        self.assertEqual(unfolded_size(((), "exp", sum_of(200))), 399)

    def test_many_pieces(self):
        made = [piece for size in (5, 8, 11) for piece in playful_pieces(150, size) + lively_pieces(150, size)]
        made = [piece for piece in made if error_of_piece(piece) is None]
        found = [0, 0]
        for piece, size in zip(made, deeply(lambda: [reference_size(piece) for piece in made])):
            before = copy.deepcopy(piece)
            with self.subTest(piece):
                if size is None:
                    self.assertIs(error_of(unfolded_size, piece), TooLarge)
                else:
                    self.assertEqual(unfolded_size(piece), size)
                found[size is None] += 1
            self.assertEqual(piece, before)
        self.assertGreater(found[0], 500)


def tree(count):
    """An expression with about so many nodes and few levels."""
    return ONE if count < 3 else ("add", tree(count // 2), tree(count - 1 - count // 2))


def row_with_nodes_at(_, count):
    return row_with_nodes(count)


def reference_size(piece):
    try:
        return reference_plays.unfolded(piece)[1]
    except reference_plays.TooBig:
        return None


class BorderTest(unittest.TestCase):
    DECLS = "e(exp) : exp, f(com, com) : com, g(val, com) : com"

    def assert_beyond(self, expected, term):
        with self.subTest(term):
            self.assertIs(is_beyond(read_piece(f"{self.DECLS} |- com : {term}")), expected)

    def test_within_one_argument(self):
        self.assert_beyond(False, "f({ block k { exit k } }, { skip })")
        self.assert_beyond(False, "f({ block k { f({ skip }, { skip }); exit k } }, { block k { exit k } })")

    def test_out_of_an_argument(self):
        self.assert_beyond(False, "block k { f({ exit k }, { exit k }) }")
        self.assert_beyond(False, "block k { f({ f({ exit k }, { skip }) }, { skip }) }")
        self.assert_beyond(False, "block k { g(2, { f({ exit k }, { exit k }) }) }")

    def test_into_a_block_in_the_same_argument_of_the_same_name(self):
        self.assert_beyond(True, "f({ block k { f({ exit k }, { skip }) } }, { skip })")
        self.assert_beyond(True, "f({ skip }, { block k { f({ skip }, { exit k }) } })")
        self.assert_beyond(True, "g(1, { block k { g(2, { exit k }) } })")
        self.assert_beyond(True, "f({ block k { while 1 { if 0 { skip } { f({ exit k }, { skip }) } } } }, { skip })")

    def test_into_another_argument_or_name(self):
        self.assert_beyond(False, "f({ block k { f({ skip }, { exit k }) } }, { skip })")
        self.assert_beyond(False, "f({ block k { g(1, { exit k }) } }, { skip })")
        self.assert_beyond(False, "g(1, { block k { f({ exit k }, { exit k }) } })")
        self.assert_beyond(False, "f({ block k { f({ skip }, { exit k }) } }, { block k { f({ exit k }, { skip }) } })")

    def test_further_in(self):
        self.assert_beyond(True, "f({ g(1, { block k { f({ exit k }, { skip }) } }) }, { skip })")
        self.assert_beyond(True, "f({ block k { g(1, { f({ exit k }, { skip }) }) } }, { skip })")
        self.assert_beyond(True, "f({ g(1, { block k { f({ skip }, { f({ exit k }, { skip }) }) } }) }, { skip })")
        self.assert_beyond(True, "f({ g(1, { block k { f({ skip }, { g(2, { exit k }) }) } }) }, { skip })")
        self.assert_beyond(False, "f({ skip }, { g(1, { block k { f({ exit k }, { skip }) } }) })")

    def test_labels_that_are_hidden(self):
        self.assert_beyond(False, "f({ block k { f({ block k { exit k } }, { skip }) } }, { skip })")
        self.assert_beyond(False, "block k { f({ f({ exit k }, { skip }) }, { skip }) }")
        self.assert_beyond(True, "block k { f({ block k { f({ exit k }, { skip }) } }, { skip }) }")

    def test_arguments_by_value_do_not_count(self):
        self.assert_beyond(False, "g(do { block k { g(do { exit k } [ 1 ], { skip }) } } [ 1 ], { skip })")
        self.assert_beyond(False, "g(1, { block k { g(exit k, { skip }) } })")
        self.assert_beyond(True, "g(1, { block k { g(1, { g(exit k, { skip }) }) } })")

    def test_expressions(self):
        self.assert_beyond(True, "new x = e(do { block k { x := 0 } } [ 1 ]) { skip }"
                           .replace("x := 0", "new y = e(exit k) { skip }"))
        self.assert_beyond(False, "block k { new x = e(e(exit k)) { skip } }")

    def test_by_way_of_a_procedure(self):
        self.assert_beyond(True, "proc p(a : com) : com { f({ block k { f({ a; exit k }, { skip }) } }, { skip }) } { p({ skip }) }")
        self.assert_beyond(True, "proc p(a : com) : com { f({ a }, { skip }) } { p({ block k { p({ exit k }) } }) }")
        self.assert_beyond(False, "proc p(a : com) : com { f({ skip }, { skip }) } { p({ block k { p({ exit k }) } }) }")
        self.assert_beyond(False, "proc p(a : com) : com { f({ block k { f({ exit k }, { skip }) } }, { skip }) } { skip }")
        self.assert_beyond(False, "proc p(a : com) : com { f({ a }, { skip }) } { block k { p({ p({ exit k }) }) } }")
        self.assert_beyond(True, "proc p(a : com) : com { block k { f({ a; exit k }, { skip }) } } { f({ p({ skip }) }, { skip }) }")

    def test_exits_that_are_never_run_count(self):
        self.assert_beyond(True, "if 0 { f({ block k { f({ stop; exit k }, { skip }) } }, { skip }) } { skip }")

    def test_many_pieces(self):
        made = playful_pieces(300, 9, seed=4) + leaving_pieces(700, 6)
        made = [piece for piece in made if error_of_piece(piece) is None]
        found = [0, 0]
        limit = sys.getrecursionlimit()
        for piece in made:
            if reference_size(piece) is not None:
                expected = reference_plays.is_beyond(reference_plays.unfolded(piece)[0])
                found[expected] += 1
                with self.subTest(piece):
                    self.assertIs(is_beyond(piece), expected)
        self.assertEqual(sys.getrecursionlimit(), limit)
        self.assertGreater(min(found), 100)


if __name__ == "__main__":
    unittest.main()
