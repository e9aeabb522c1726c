"""[1.11]: the plain text of each form, and parentheses around operands."""

import unittest

from doppelganger.reader import read_piece
from doppelganger.terms import is_shaped
from doppelganger.writer import piece_text
from helpers import ONE, PLACES, PLAIN, SKIP, outside, program, row_of, sum_of

STOP = ("stop",)
FAULT = ("fault",)
ZERO, TWO = ("num", 0), ("num", 2)
CALL_C = ("call", "c", ())
CALL_E = ("call", "e", ())
DECLS = (("c", (), "com"), ("e", (), "exp"), ("f", ("com", "exp"), "com"))
FRONT = "c : com, e : exp, f(com, exp) : com |- "
SIGNS = {"equal": "==", "less": "<", "add": "+", "sub": "-", "mul": "*"}
RANKS = {"equal": 1, "less": 1, "add": 2, "sub": 2, "mul": 3}


class FormsTest(unittest.TestCase):
    def assert_text(self, kind, term, text):
        with self.subTest(text):
            self.assertEqual(piece_text((DECLS, kind, term)), f"{FRONT}{kind} : {text}")

    def assert_read(self, kind, term, text):
        self.assert_text(kind, term, text)
        self.assertEqual(read_piece(f"{FRONT}{kind} : {text}"), (DECLS, kind, term))

    def test_terms_without_parts(self):
        for kind in ("com", "exp"):
            self.assert_read(kind, STOP, "stop")
            self.assert_read(kind, FAULT, "fault")
        self.assert_read("com", SKIP, "skip")
        self.assert_read("com", CALL_C, "c")
        self.assert_read("exp", CALL_E, "e")
        for digit in range(3):
            self.assert_read("exp", ("num", digit), str(digit))

    def test_rows(self):
        self.assert_read("com", ("seq", SKIP, STOP), "skip; stop")
        self.assert_read("com", row_of([SKIP, STOP, FAULT, CALL_C]), "skip; stop; fault; c")

    def test_variables(self):
        self.assert_read("com", ("new", "x", ONE, ("set", "x", ("read", "x"))), "new x = 1 { x := x }")
        self.assert_read("exp", ("new", "x", ("add", ONE, TWO), ("read", "x")), "new x = 1 + 2 [ x ]")
        self.assert_read("com", ("new", "abcd", ("equal", ONE, TWO), row_of([("set", "abcd", ONE), SKIP])),
                         "new abcd = 1 == 2 { abcd := 1; skip }")

    def test_conditions(self):
        self.assert_read("com", ("if", ("less", ONE, CALL_E), row_of([SKIP, STOP]), CALL_C), "if 1 < e { skip; stop } { c }")
        self.assert_read("exp", ("if", ONE, ("equal", ONE, ONE), CALL_E), "if 1 [ 1 == 1 ] [ e ]")

    def test_loops_and_blocks(self):
        self.assert_read("com", ("while", ONE, row_of([SKIP, STOP])), "while 1 { skip; stop }")
        self.assert_read("com", ("while", ("equal", CALL_E, ONE), SKIP), "while e == 1 { skip }")
        self.assert_read("com", ("block", "k", ("exit", "k")), "block k { exit k }")
        self.assert_read("com", ("block", "k", ("new", "x", ("exit", "k"), SKIP)), "block k { new x = exit k { skip } }")

    def test_do(self):
        self.assert_read("exp", ("do", row_of([SKIP, CALL_C]), ("add", ONE, ONE)), "do { skip; c } [ 1 + 1 ]")

    def test_calls(self):
        self.assert_read("com", ("call", "f", (("com", SKIP), ("exp", ONE))), "f({ skip }, 1)")
        inner = ("call", "f", (("com", row_of([SKIP, STOP])), ("exp", ("equal", ONE, ("add", CALL_E, ONE)))))
        self.assert_read("com", inner, "f({ skip; stop }, 1 == e + 1)")
        self.assert_read("com", ("call", "f", (("com", inner), ("exp", CALL_E))), "f({ f({ skip; stop }, 1 == e + 1) }, e)")

    def test_arguments_in_each_order(self):
        for args, text in [
            ((("com", SKIP),), "g({ skip })"), ((("exp", ONE),), "g(1)"), ((("com", SKIP), ("com", STOP)), "g({ skip }, { stop })"),
            ((("exp", ONE), ("com", STOP)), "g(1, { stop })"), ((("exp", ONE), ("exp", ("add", ONE, ONE))), "g(1, 1 + 1)"),
        ]:
            types = ", ".join(kind for kind, _ in args)
            decls = (("g", tuple(kind for kind, _ in args), "exp"),)
            with self.subTest(text):
                whole = f"g({types}) : exp |- exp : {text}"
                self.assertEqual(piece_text((decls, "exp", ("call", "g", args))), whole)
                self.assertEqual(read_piece(whole), (decls, "exp", ("call", "g", args)))

    def test_procedures(self):
        self.assert_read("com", ("proc", "p", (), "com", SKIP, ("call", "p", ())), "proc p() : com { skip } { p }")
        self.assert_read("exp", ("proc", "p", (), "com", SKIP, ONE), "proc p() : com { skip } [ 1 ]")
        self.assert_read("com", ("proc", "p", (), "exp", ONE, SKIP), "proc p() : exp [ 1 ] { skip }")
        params = (("a", "com"), ("b", "val"))
        body = ("do", ("call", "a", ()), ("read", "b"))
        self.assert_read("exp", ("proc", "p", params, "exp", body, ("call", "p", (("com", SKIP), ("exp", ONE)))),
                         "proc p(a : com, b : val) : exp [ do { a } [ b ] ] [ p({ skip }, 1) ]")
        self.assert_read("com", ("proc", "p", (("q", "exp"),), "com", ("while", ("call", "q", ()), SKIP), row_of([SKIP, SKIP])),
                         "proc p(q : exp) : com { while q { skip } } { skip; skip }")

    def test_declarations(self):
        for decls, text in [
            ((), "|- com : skip"), ((("p", (), "com"),), "p : com |- com : skip"),
            ((("p", ("val",), "exp"),), "p(val) : exp |- com : skip"),
            ((("a", ("com", "exp"), "com"), ("b", (), "exp"), ("c", ("val", "val"), "com")),
             "a(com, exp) : com, b : exp, c(val, val) : com |- com : skip"),
        ]:
            self.assertEqual(piece_text((decls, "com", SKIP)), text)
            self.assertEqual(read_piece(text), (decls, "com", SKIP))

    def test_kinds(self):
        self.assertEqual(piece_text(program("com", STOP)), "|- com : stop")
        self.assertEqual(piece_text(program("exp", STOP)), "|- exp : stop")


class OperandsTest(unittest.TestCase):
    def assert_read(self, term, text):
        with self.subTest(text):
            self.assertEqual(piece_text(program("exp", term)), f"|- exp : {text}")
            self.assertEqual(read_piece(f"|- exp : {text}"), program("exp", term))

    def test_plain_operands(self):
        for word, sign in SIGNS.items():
            self.assert_read((word, ZERO, TWO), f"0 {sign} 2")

    def test_operands_of_each_rank_on_each_side(self):
        for word, sign in SIGNS.items():
            for other, inner in SIGNS.items():
                left_is_bare = RANKS[other] > RANKS[word] or (RANKS[other] == RANKS[word] and RANKS[word] > 1)
                left = f"0 {inner} 1" if left_is_bare else f"(0 {inner} 1)"
                self.assert_read((word, (other, ZERO, ONE), TWO), f"{left} {sign} 2")
                right = f"1 {inner} 2" if RANKS[other] > RANKS[word] else f"(1 {inner} 2)"
                self.assert_read((word, ZERO, (other, ONE, TWO)), f"0 {sign} {right}")
                self.assert_read((word, (other, ZERO, ONE), (other, ONE, TWO)), f"{left} {sign} {right}")

    def test_parentheses_are_there_only_if_the_tuple_would_be_different(self):
        for word, sign in SIGNS.items():
            for other, inner in SIGNS.items():
                for term in ((word, (other, ZERO, ONE), TWO), (word, ZERO, (other, ONE, TWO))):
                    text = piece_text(program("exp", term))
                    if "(" in text:
                        bare = text.replace("(", "").replace(")", "")
                        try:
                            self.assertNotEqual(read_piece(bare), program("exp", term))
                        except ValueError:
                            self.assertTrue(sign in ("==", "<") and inner in ("==", "<"))

    def test_operands_that_are_no_operators(self):
        for term, text in [
            (("if", ("equal", ONE, ONE), ONE, ONE), "if 1 == 1 [ 1 ] [ 1 ]"), (("do", SKIP, ("add", ONE, ONE)), "do { skip } [ 1 + 1 ]"),
            (("new", "x", ("add", ONE, ONE), ("less", ONE, ONE)), "new x = 1 + 1 [ 1 < 1 ]"), (STOP, "stop"), (FAULT, "fault"),
            (("proc", "p", (), "exp", ("add", ONE, ONE), ("call", "p", ())), "proc p() : exp [ 1 + 1 ] [ p ]"),
        ]:
            for word, sign in SIGNS.items():
                self.assert_read((word, term, term), f"{text} {sign} {text}")

    def test_no_parentheses_around_other_expressions(self):
        add = ("add", ("equal", ONE, ONE), ONE)
        for term, text in [
            (("if", add, add, add), "if (1 == 1) + 1 [ (1 == 1) + 1 ] [ (1 == 1) + 1 ]"),
            (("new", "x", add, add), "new x = (1 == 1) + 1 [ (1 == 1) + 1 ]"), (("do", SKIP, add), "do { skip } [ (1 == 1) + 1 ]"),
        ]:
            self.assert_read(term, text)

    def test_long_operations(self):
        self.assert_read(sum_of(30), " + ".join(["1"] * 30))
        right = ONE
        for _ in range(29):
            right = ("sub", TWO, right)
        self.assert_read(right, "2 - (" * 28 + "2 - 1" + ")" * 28)


class LongPiecesTest(unittest.TestCase):
    def test_long_rows(self):
        for count in (100, 200, 1500, 5000):
            self.assertEqual(piece_text(program("com", row_of([SKIP] * count))), "|- com : " + "; ".join(["skip"] * count))

    def test_long_sums_and_deep_terms(self):
        for count in (100, 5000):
            self.assertEqual(piece_text(program("exp", sum_of(count))), "|- exp : " + " + ".join(["1"] * count))
        deep = SKIP
        for _ in range(5000):
            deep = ("while", ONE, deep)
        self.assertEqual(piece_text(program("com", deep)), "|- com : " + "while 1 { " * 5000 + "skip" + " }" * 5000)


class PlacesTest(unittest.TestCase):
    def test_each_form_in_each_place(self):
        for name, kind, part_kind, wrap in PLACES:
            for inner_name, inner_kind, plain_kind, inner in PLACES:
                piece = outside(kind, wrap(inner(PLAIN[plain_kind])))
                if inner_kind == part_kind and is_shaped(piece):
                    with self.subTest(place=name, form=inner_name):
                        self.assertEqual(read_piece(piece_text(piece)), piece)


if __name__ == "__main__":
    unittest.main()
