"""[1.12]: contexts that are filled with pieces."""

import copy
import unittest

from doppelganger.contexts import fill
from doppelganger.errors import BadKind, BadName, Missing, TooLarge
from doppelganger.names import check_piece
from doppelganger.reader import read_piece
from doppelganger.terms import nodes
from doppelganger.writer import piece_text
from generate import Maker, contexts
from helpers import ONE, SKIP, error_of, row_of, row_with_nodes, sum_of, wrapped
from reference import error_of_piece, filled

TYPES = [()] + [(one,) for one in ("com", "exp", "val")] + [
    (one, two) for one in ("com", "exp", "val") for two in ("com", "exp", "val")
]
SIGNATURES = [(types, result) for types in TYPES for result in ("com", "exp")]
HOLE = ("call", "hole", ())


def filled_text(context, piece):
    return piece_text(fill(read_piece(context), read_piece(piece)))


class PlacesTest(unittest.TestCase):
    def test_places(self):
        for context, piece, expected in [
            ("hole : com |- com : hole", "|- com : stop", "|- com : stop"),
            ("hole : exp |- exp : hole", "|- exp : 1 + 2", "|- exp : 1 + 2"),
            ("hole : exp |- exp : hole * hole", "|- exp : 1 + 2", "|- exp : (1 + 2) * (1 + 2)"),
            ("hole : exp |- exp : 1 - hole", "|- exp : 1 - 2", "|- exp : 1 - (1 - 2)"),
            ("hole : exp |- com : while hole { skip }", "|- exp : 1", "|- com : while 1 { skip }"),
            ("hole : exp |- com : if hole { stop } { skip }", "|- exp : 1", "|- com : if 1 { stop } { skip }"),
            ("hole : com |- com : if 1 { hole } { hole; skip }", "|- com : fault",
             "|- com : if 1 { fault } { fault; skip }"),
            ("hole : exp |- com : new x = hole { x := hole }", "|- exp : 2", "|- com : new x = 2 { x := 2 }"),
            ("hole : com |- exp : do { hole } [ 1 ]", "|- com : stop", "|- exp : do { stop } [ 1 ]"),
            ("f(com, val) : com, hole : com |- com : f({ hole }, 1)", "|- com : stop",
             "f(com, val) : com |- com : f({ stop }, 1)"),
            ("f(exp) : exp, hole : exp |- exp : f(f(hole))", "|- exp : 2", "f(exp) : exp |- exp : f(f(2))"),
            ("hole : com |- com : proc p() : com { hole } { p; hole }", "|- com : stop",
             "|- com : proc p() : com { stop } { p; stop }"),
            ("hole : com |- com : block k { hole }", "|- com : block k { exit k }",
             "|- com : block k { block k { exit k } }"),
            ("hole : com |- com : skip", "|- com : stop", "|- com : skip"),
        ]:
            with self.subTest(context):
                self.assertEqual(filled_text(context, piece), expected)

    def test_rows_are_grouped_from_the_left(self):
        context = read_piece("hole : com |- com : skip; hole; stop")
        piece = read_piece("|- com : new x = 1 { skip }; fault")
        new = ("new", "x", ONE, SKIP)
        self.assertEqual(
            fill(context, piece)[2], ("seq", ("seq", ("seq", SKIP, new), ("fault",)), ("stop",)))
        self.assertEqual(
            fill(read_piece("hole : com |- com : hole; hole"), piece)[2],
            ("seq", ("seq", ("seq", new, ("fault",)), new), ("fault",)))
        self.assertEqual(
            fill(read_piece("hole : com |- com : hole; skip"), piece)[2],
            ("seq", ("seq", new, ("fault",)), SKIP))
        self.assertEqual(
            filled_text("hole : com |- com : if 0 { hole } { skip; hole }", "|- com : skip; stop"),
            "|- com : if 0 { skip; stop } { skip; skip; stop }")

    def test_other_names_that_are_called_hole(self):
        for inner in [
            "proc hole() : com { stop } { hole; HERE }",
            "proc p(hole : com) : com { hole } { p({ stop }); HERE }",
            "proc p(hole : val) : com { hole := hole } { p(1); HERE }",
            "new hole = 1 { hole := 2 }; HERE",
            "block hole { exit hole }; HERE",
            "proc hole(x : val) : com { HERE } { hole(1) }",
            "new hole = do { HERE } [ 0 ] { hole := 1 }",
        ]:
            hides = inner.endswith("HERE }")
            text = "hole : com |- com : " + inner.replace("HERE", "skip" if hides else "hole")
            with self.subTest(text):
                found = fill(read_piece(text), read_piece("|- com : fault; fault"))
                plain = inner.replace("HERE", "skip" if hides else "fault; fault")
                self.assertEqual(found, read_piece("|- com : " + plain))

    def test_hidden_holes_are_not_filled(self):
        text = "proc hole() : com { skip } { hole; proc p(hole : exp) : exp [ hole ] { skip } }"
        self.assertEqual(filled_text("hole : com |- com : " + text, "|- com : fault"), "|- com : " + text)

    def test_declarations_that_stay(self):
        self.assertEqual(
            filled_text("a : exp, hole : exp, z(val) : com |- com : z(hole)", "a : exp, z(val) : com |- exp : a"),
            "a : exp, z(val) : com |- com : z(a)")

    def test_filled_again(self):
        once = fill(read_piece("hole : com, p : com |- com : hole; p"), read_piece("p : com |- com : p; stop"))
        self.assertEqual(piece_text(once), "p : com |- com : p; stop; p")
        context = read_piece("hole : com, p : com |- com : p; hole")
        inner = fill(context, read_piece("p : com |- com : p; stop"))
        outer = read_piece("hole : com |- com : proc p() : com { skip } { hole }")
        self.assertEqual(piece_text(fill(outer, inner)), "|- com : proc p() : com { skip } { p; p; stop }")

    def test_names_may_be_bound_by_what_is_around(self):
        piece = read_piece("p : com, x : exp |- com : p")
        for context in [
            "hole : com, p : com, x : exp |- com : hole",
            "hole : com, x : exp |- com : proc p() : com { stop } { hole }",
            "hole : com |- com : proc x() : exp [ 1 ] { proc p() : com { stop } { hole } }",
            "hole : com |- com : proc f(p : com, x : exp) : com { hole } { f({ stop }, 1) }",
            "hole : com, p(val) : com |- com : proc f(p : com, x : exp) : com { hole } { p(1) }",
        ]:
            with self.subTest(context):
                found = filled_text(context, "p : com, x : exp |- com : p")
                self.assertIsNone(check_piece(fill(read_piece(context), piece)))
                self.assertIn("p", found)


class ErrorsTest(unittest.TestCase):
    def assert_error(self, error, context, piece="|- com : skip"):
        with self.subTest(context=context, piece=piece):
            self.assertIs(error_of(fill, read_piece(context), read_piece(piece)), error)

    def test_missing(self):
        for context in ["|- com : skip", "p : com |- com : p", "hole(com) : com |- com : hole({ skip })",
                        "hole(val, exp) : exp |- com : skip", "|- com : proc hole() : com { skip } { hole }",
                        "a : com, b : com, f : com |- com : skip"]:
            for piece in ["|- com : skip", "|- exp : 1", "z : com |- com : z"]:
                self.assert_error(Missing, context, piece)

    def test_kind(self):
        self.assert_error(BadKind, "hole : com |- com : hole", "|- exp : 1")
        self.assert_error(BadKind, "hole : exp |- exp : hole", "|- com : skip")
        self.assert_error(BadKind, "hole : exp |- com : skip", "|- com : skip")
        # It comes before what is told of the names.
        self.assert_error(BadKind, "hole : exp |- exp : hole", "p : com |- com : p")

    def test_names_without_a_binding(self):
        for piece in ["p : com |- com : p", "p : com |- com : skip", "hole : com |- com : skip",
                      "a : exp, p : com |- com : skip"]:
            self.assert_error(BadName, "a : exp, hole : com |- com : hole", piece)
            self.assert_error(None, "a : exp, hole : com |- com : skip", piece)

    def test_the_hole_itself_does_not_count(self):
        self.assert_error(BadName, "hole : com |- com : hole", "hole : com |- com : hole")
        self.assert_error(BadName, "hole : com |- com : hole", "hole(val) : exp |- com : skip")
        self.assert_error(None, "hole : com |- com : proc hole() : com { skip } { hole }", "hole : com |- com : hole")

    def test_bindings_that_do_not_fit(self):
        for binding in ["new p = 1 { hole }", "block p { hole }", "proc p(a : val) : com { skip } { hole }",
                        "proc p() : exp [ 1 ] { hole }", "proc f(p : val) : com { hole } { f(1) }",
                        "proc f(p : exp) : com { hole } { f(1) }"]:
            self.assert_error(BadKind, "hole : com |- com : " + binding, "p : com |- com : skip")
            self.assert_error(BadKind, "hole : com, p : com |- com : " + binding, "p : com |- com : p")
            self.assert_error(None, "hole : com, p : com |- com : " + binding.replace("hole", "skip"), "p : com |- com : p")

    def test_signatures_against_signatures(self):
        for types, result in SIGNATURES:
            for other in SIGNATURES:
                piece = ((("p", types, result),), "com", SKIP)
                expected = None if (types, result) == other else BadKind
                context = ((("hole", (), "com"), ("p", *other)), "com", HOLE)
                self.assertIs(error_of(fill, context, piece), expected)
                params = tuple(zip("ab", other[0]))
                body = SKIP if other[1] == "com" else ONE
                context = ((("hole", (), "com"),), "com", ("proc", "p", params, other[1], body, HOLE))
                self.assertIs(error_of(fill, context, piece), expected)

    def test_signatures_against_parameters(self):
        for types, result in SIGNATURES:
            for of_type in ("com", "exp", "val"):
                context = ((("hole", (), "com"),), "com", ("proc", "f", (("p", of_type),), "com", HOLE, SKIP))
                expected = None if (types, result) == ((), of_type) else BadKind
                self.assertIs(error_of(fill, context, ((("p", types, result),), "com", SKIP)), expected)

    def test_the_first_hole_and_the_first_name_decide(self):
        for context, piece, error in [
            ("hole : com |- com : new p = 1 { hole }; hole", "p : com |- com : skip", BadKind),
            ("hole : com |- com : hole; new p = 1 { hole }", "p : com |- com : skip", BadName),
            ("a(val) : com, hole : com |- com : hole", "a : com, b : com |- com : skip", BadKind),
            ("b(val) : com, hole : com |- com : hole", "a : com, b : com |- com : skip", BadName),
            ("b(val) : com, hole : com |- com : new a = 1 { hole }; hole", "a : com, b : com |- com : skip", BadKind),
            ("hole : com |- com : proc f() : com { hole } { new f = 1 { hole } }", "f : com |- com : skip", BadName),
            ("hole : com |- com : proc f() : com { skip } { hole; new f = 1 { hole }; hole }", "f : com |- com : skip",
             BadKind),
        ]:
            self.assert_error(error, context, piece)

    def test_names_come_before_the_size(self):
        large = ((), "com", row_with_nodes(400))
        context = ((("hole", (), "com"),), "com", ("seq", HOLE, HOLE))
        self.assertIs(error_of(fill, context, large), TooLarge)
        self.assertIs(error_of(fill, context, ((("p", (), "com"),),) + large[1:]), BadName)


class SizeTest(unittest.TestCase):
    def test_nodes(self):
        context = read_piece("hole : com |- com : if 1 { hole } { hole }")
        for nodes_of_piece, error in [(198, None), (199, None), (200, TooLarge), (300, TooLarge)]:
            piece = ((), "com", ("new", "x", ONE, row_with_nodes(nodes_of_piece - 2)))
            with self.subTest(nodes_of_piece):
                self.assertIs(error_of(fill, context, piece), error)
        context = read_piece("hole : com |- com : if 1 { hole; stop } { skip }")
        for count in (395, 396):
            piece = ((), "com", ("new", "x", ONE, row_with_nodes(count - 2)))
            self.assertEqual(error_of(fill, context, piece), None if count == 395 else TooLarge)
            if count == 395:
                self.assertEqual(len(nodes(fill(context, piece)[2], "com")), 400)

    def test_a_context_without_holes_counts_alone(self):
        context = ((("hole", (), "com"),), "com", ("new", "x", ONE, row_with_nodes(398)))
        self.assertEqual(fill(context, ((), "com", row_of([SKIP] * 200)))[2], context[2])

    def test_levels(self):
        context = read_piece("hole : exp |- exp : 1 + (1 + (1 + hole))")
        for count in (27, 28):
            self.assertIs(error_of(fill, context, ((), "exp", sum_of(count))), None if count == 27 else TooLarge)

    def test_rows_in_rows_take_no_level(self):
        inner = wrapped(lambda t: ("block", "k", t), 27, SKIP)
        piece = ((), "com", ("seq", SKIP, inner))
        for wrap, error in [(lambda t: t, None), (lambda t: ("seq", SKIP, t), None),
                            (lambda t: ("block", "l", t), None), (lambda t: ("block", "l", ("block", "l", t)), TooLarge),
                            (lambda t: ("seq", SKIP, ("block", "l", ("seq", SKIP, t))), TooLarge)]:
            context = ((("hole", (), "com"),), "com", wrap(HOLE))
            self.assertIs(error_of(fill, context, piece), error)


class ManyContextsTest(unittest.TestCase):
    def test_all_agree_with_the_rules(self):
        found = {}
        for at, context in enumerate(contexts(1500, 5)):
            maker = Maker(f"inner {at}", True)
            others = tuple(decl for decl in context[0] if decl[0] != "hole" and maker.random.random() < 0.7)
            if maker.random.random() < 0.3:
                others = tuple(sorted({decl[0]: decl for decl in others + (
                    (maker.random.choice(["a", "b", "x", "hole"]), maker.types(), "com"),)}.values()))
            kind = maker.random.choice(["com", "exp"])
            term = maker.term(kind, 4, {name: (types, result) for name, types, result in others})
            piece = (others, kind, term)
            if error_of_piece(context) or error_of_piece(piece):
                continue
            expected = filled(context, piece)
            with self.subTest(context=context, piece=piece):
                before = copy.deepcopy((context, piece))
                if isinstance(expected, tuple):
                    found["filled"] = found.get("filled", 0) + 1
                    self.assertEqual(fill(context, piece), expected)
                    self.assertIsNone(check_piece(expected))
                else:
                    found[expected] = found.get(expected, 0) + 1
                    self.assertIs(error_of(fill, context, piece), expected)
                self.assertEqual((context, piece), before)
        self.assertGreater(min(found[each] for each in ("filled", BadName, BadKind)), 20)


if __name__ == "__main__":
    unittest.main()
