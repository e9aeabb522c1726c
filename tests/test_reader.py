"""[1.9], [1.10]: texts that follow the grammar, and what is read from them."""

import unittest

from doppelganger.errors import BadKind, BadName, TooLarge
from doppelganger.reader import read_piece
from helpers import ONE, SKIP, error_of, program, row_of, spread, squeezed, sum_of

STOP = ("stop",)
FAULT = ("fault",)
DECLS = "c : com, e : exp, f(com, exp) : com"
DECL_TUPLES = (("c", (), "com"), ("e", (), "exp"), ("f", ("com", "exp"), "com"))
CALL_C = ("call", "c", ())
CALL_E = ("call", "e", ())
ZERO, TWO = ("num", 0), ("num", 2)


class GrammarTest(unittest.TestCase):
    def assert_term(self, kind, text, term):
        """The text is read in each way to set spaces."""
        whole = f"{DECLS} |- {kind} : {text}"
        for written in (whole, spread(whole), squeezed(whole)):
            with self.subTest(written):
                self.assertEqual(read_piece(written), (DECL_TUPLES, kind, term))

    def test_steps_of_one_word(self):
        self.assert_term("com", "skip", SKIP)
        self.assert_term("com", "stop", STOP)
        self.assert_term("com", "fault", FAULT)

    def test_rows(self):
        self.assert_term("com", "skip; stop", ("seq", SKIP, STOP))
        self.assert_term("com", "skip; stop; fault; c", ("seq", ("seq", ("seq", SKIP, STOP), FAULT), CALL_C))

    def test_exit_and_block(self):
        self.assert_term("com", "block k { exit k }", ("block", "k", ("exit", "k")))
        self.assert_term("com", "block k { exit k; skip }", ("block", "k", ("seq", ("exit", "k"), SKIP)))
        self.assert_term("com", "block kk { new x = exit kk { skip } }", ("block", "kk", ("new", "x", ("exit", "kk"), SKIP)))

    def test_set_and_new(self):
        self.assert_term("com", "new x = 1 { x := 2 }", ("new", "x", ONE, ("set", "x", TWO)))
        self.assert_term("com", "new x = e { x := x + e; c }",
                         ("new", "x", CALL_E, ("seq", ("set", "x", ("add", ("read", "x"), CALL_E)), CALL_C)))
        self.assert_term("exp", "new x = 1 [ x ]", ("new", "x", ONE, ("read", "x")))

    def test_if(self):
        self.assert_term("com", "if 1 { skip } { stop }", ("if", ONE, SKIP, STOP))
        self.assert_term("com", "if e { skip; c } { stop; c }", ("if", CALL_E, ("seq", SKIP, CALL_C), ("seq", STOP, CALL_C)))
        self.assert_term("exp", "if 1 [ 0 ] [ 2 ]", ("if", ONE, ZERO, TWO))
        self.assert_term("exp", "if if 1 [ 0 ] [ 2 ] [ e ] [ 1 + 1 ]",
                         ("if", ("if", ONE, ZERO, TWO), CALL_E, ("add", ONE, ONE)))

    def test_while(self):
        self.assert_term("com", "while 1 { skip }", ("while", ONE, SKIP))
        self.assert_term("com", "while e < 2 { c; c }", ("while", ("less", CALL_E, TWO), ("seq", CALL_C, CALL_C)))

    def test_do(self):
        self.assert_term("exp", "do { skip } [ 1 ]", ("do", SKIP, ONE))
        self.assert_term("exp", "do { c; stop } [ 1 - 1 ]", ("do", ("seq", CALL_C, STOP), ("sub", ONE, ONE)))

    def test_atoms_of_one_word(self):
        for digit in range(3):
            self.assert_term("exp", str(digit), ("num", digit))
        self.assert_term("exp", "stop", STOP)
        self.assert_term("exp", "fault", FAULT)
        self.assert_term("exp", "e", CALL_E)
        self.assert_term("com", "c", CALL_C)

    def test_parentheses(self):
        self.assert_term("exp", "(1)", ONE)
        self.assert_term("exp", "(((e)))", CALL_E)
        self.assert_term("exp", "(1 + 1) * 2", ("mul", ("add", ONE, ONE), TWO))

    def test_operators(self):
        for sign, word in [("==", "equal"), ("<", "less"), ("+", "add"), ("-", "sub"), ("*", "mul")]:
            self.assert_term("exp", f"0 {sign} 2", (word, ZERO, TWO))
            self.assert_term("exp", f"(0 {sign} 2) {sign} 1", (word, (word, ZERO, TWO), ONE))
            self.assert_term("exp", f"0 {sign} (2 {sign} 1)", (word, ZERO, (word, TWO, ONE)))

    def test_operators_of_one_rank_are_grouped_from_the_left(self):
        words = {"+": "add", "-": "sub"}
        for one, first in words.items():
            for two, second in words.items():
                self.assert_term("exp", f"0 {one} 1 {two} 2", (second, (first, ZERO, ONE), TWO))
        self.assert_term("exp", "0 * 1 * 2 * e", ("mul", ("mul", ("mul", ZERO, ONE), TWO), CALL_E))
        self.assert_term("exp", "0 - 1 - 2 + e - 1", ("sub", ("add", ("sub", ("sub", ZERO, ONE), TWO), CALL_E), ONE))

    def test_operators_of_different_ranks(self):
        for low, word in (("+", "add"), ("-", "sub")):
            self.assert_term("exp", f"0 * 1 {low} 2", (word, ("mul", ZERO, ONE), TWO))
            self.assert_term("exp", f"0 {low} 1 * 2", (word, ZERO, ("mul", ONE, TWO)))
            self.assert_term("exp", f"0 * 1 {low} 2 * e", (word, ("mul", ZERO, ONE), ("mul", TWO, CALL_E)))
            self.assert_term("exp", f"1 {low} 1 * 2 * 1 {low} 2",
                             (word, (word, ONE, ("mul", ("mul", ONE, TWO), ONE)), TWO))
            for lowest, other in (("==", "equal"), ("<", "less")):
                self.assert_term("exp", f"0 {lowest} 1 {low} 2", (other, ZERO, (word, ONE, TWO)))
                self.assert_term("exp", f"0 {low} 1 {lowest} 2", (other, (word, ZERO, ONE), TWO))
                self.assert_term("exp", f"0 * 1 {lowest} 2 * 1", (other, ("mul", ZERO, ONE), ("mul", TWO, ONE)))
                self.assert_term("exp", f"1 {low} 0 * 1 {lowest} 2 * 1 {low} 2",
                                 (other, (word, ONE, ("mul", ZERO, ONE)), (word, ("mul", TWO, ONE), TWO)))

    def test_forms_as_operands(self):
        self.assert_term("exp", "if 1 [ 0 ] [ 2 ] + 1", ("add", ("if", ONE, ZERO, TWO), ONE))
        self.assert_term("exp", "1 * do { skip } [ 0 ] * 2", ("mul", ("mul", ONE, ("do", SKIP, ZERO)), TWO))
        self.assert_term("exp", "new x = 1 + 1 [ x ] == stop", ("equal", ("new", "x", ("add", ONE, ONE), ("read", "x")), STOP))
        self.assert_term("exp", "1 < proc p() : com { c } [ 2 ]", ("less", ONE, ("proc", "p", (), "com", CALL_C, TWO)))

    def test_calls(self):
        self.assert_term("com", "f({ skip }, 1)", ("call", "f", (("com", SKIP), ("exp", ONE))))
        self.assert_term("com", "f({ c; c }, e + 1)",
                         ("call", "f", (("com", ("seq", CALL_C, CALL_C)), ("exp", ("add", CALL_E, ONE)))))
        self.assert_term("com", "f({ f({ stop }, 0) }, (1))",
                         ("call", "f", (("com", ("call", "f", (("com", STOP), ("exp", ZERO)))), ("exp", ONE))))

    def test_procedures(self):
        head = ("proc", "p", (), "com", SKIP)
        self.assert_term("com", "proc p() : com { skip } { p }", head + (("call", "p", ()),))
        self.assert_term("exp", "proc p() : com { skip } [ 1 ]", head + (ONE,))
        head = ("proc", "p", (("a", "com"), ("b", "exp")), "exp", ("do", ("call", "a", ()), ("call", "b", ())))
        self.assert_term("com", "proc p(a : com, b : exp) : exp [ do { a } [ b ] ] { skip }", head + (SKIP,))
        self.assert_term("exp", "proc p(a : com, b : exp) : exp [ do { a } [ b ] ] [ p({ c }, e) ]",
                         head + (("call", "p", (("com", CALL_C), ("exp", CALL_E))),))
        self.assert_term("com", "proc p(v : val) : com { v := v } { p(2) }",
                         ("proc", "p", (("v", "val"),), "com", ("set", "v", ("read", "v")), ("call", "p", (("exp", TWO),))))

    def test_names_of_each_length(self):
        for name in ("a", "ab", "abc", "abcd", "hole", "seq", "set", "read", "num", "add", "less", "coms", "iff"):
            self.assert_term("exp", f"new {name} = 1 [ {name} ]", ("new", name, ONE, ("read", name)))


class NamesAloneTest(unittest.TestCase):
    def test_variables_are_read(self):
        self.assertEqual(read_piece("|- exp : new x = 1 [ x ]"), program("exp", ("new", "x", ONE, ("read", "x"))))
        self.assertEqual(read_piece("|- exp : proc f(x : val) : exp [ x ] [ 1 ]"),
                         program("exp", ("proc", "f", (("x", "val"),), "exp", ("read", "x"), ONE)))

    def test_others_are_called(self):
        call = ("call", "x", ())
        self.assertEqual(read_piece("x : exp |- exp : x"), ((("x", (), "exp"),), "exp", call))
        for of_type, result, body in (("exp", "exp", "[ x ]"), ("com", "com", "{ x }")):
            self.assertEqual(read_piece(f"|- exp : proc f(x : {of_type}) : {result} {body} [ 1 ]"),
                             program("exp", ("proc", "f", (("x", of_type),), result, call, ONE)))
        self.assertEqual(read_piece("|- exp : proc x() : exp [ 1 ] [ x ]"), program("exp", ("proc", "x", (), "exp", ONE, call)))

    def test_errors_of_names_alone(self):
        for text, expected in [
            ("|- exp : x", BadName), ("|- com : x", BadName), ("|- exp : new y = x [ 1 ]", BadName),
            ("|- com : block k { new x = k { skip } }", BadKind), ("|- com : block k { k }", BadKind),
            ("x : com |- exp : x", BadKind), ("x : exp |- com : x", BadKind), ("x(exp) : exp |- exp : x", BadKind),
            ("|- com : new x = 1 { x }", BadKind), ("|- exp : new x = 1 [ x(1) ]", BadKind),
            ("|- exp : proc f(x : com) : exp [ x ] [ 1 ]", BadKind), ("|- exp : proc f(x : val) : exp [ 1 ] [ x ]", BadName),
            ("|- exp : proc f() : exp [ f ] [ 1 ]", BadName), ("|- exp : exit k", BadName), ("|- com : x := 1", BadName),
            ("x : exp |- com : x := 1", BadKind), ("x : exp |- com : exit x", BadKind),
        ]:
            with self.subTest(text):
                self.assertIs(error_of(read_piece, text), expected)

    def test_inner_bindings_decide(self):
        read, call = ("read", "x"), ("call", "x", ())
        for text, term in [
            ("new x = x [ x ]", ("new", "x", call, read)),
            ("proc x() : exp [ x ] [ x ]", ("proc", "x", (), "exp", call, call)),
            ("new x = 1 [ proc x() : exp [ x ] [ x ] ]", ("new", "x", ONE, ("proc", "x", (), "exp", read, call))),
            ("new x = 1 [ proc f(x : exp) : exp [ x ] [ x ] ]",
             ("new", "x", ONE, ("proc", "f", (("x", "exp"),), "exp", call, read))),
            ("proc f(x : val) : exp [ x ] [ x ]", ("proc", "f", (("x", "val"),), "exp", read, call)),
            ("proc x(x : val) : exp [ x ] [ x(1) ]",
             ("proc", "x", (("x", "val"),), "exp", read, ("call", "x", (("exp", ONE),)))),
            ("new x = 1 [ x ] + x", ("add", ("new", "x", ONE, read), call)),
            ("do { new x = 1 { x := x } } [ x ]", ("do", ("new", "x", ONE, ("set", "x", read)), call)),
        ]:
            with self.subTest(text):
                self.assertEqual(read_piece(f"x : exp |- exp : {text}"), ((("x", (), "exp"),), "exp", term))

    def test_label_that_hides(self):
        text = "x : exp |- com : block x { new y = x { skip } }"
        self.assertIs(error_of(read_piece, text), BadKind)
        text = "|- com : new x = 1 { block x { new y = x { skip } } }"
        self.assertIs(error_of(read_piece, text), BadKind)
        text = "x : exp |- com : block x { proc x() : exp [ 1 ] { new y = x { skip } } }"
        self.assertIsNone(error_of(read_piece, text))


class DeclarationsTest(unittest.TestCase):
    def assert_decls(self, text, decls):
        for written in (text, f" {text} ", text.replace(" ", ""), spread(text)):
            with self.subTest(written):
                self.assertEqual(read_piece(f"{written}|- com : skip"), (decls, "com", SKIP))

    def test_none(self):
        self.assert_decls("", ())

    def test_each_form(self):
        self.assert_decls("p : com", (("p", (), "com"),))
        self.assert_decls("p : exp", (("p", (), "exp"),))
        for one in ("com", "exp", "val"):
            self.assert_decls(f"p({one}) : com", (("p", (one,), "com"),))
            for two in ("com", "exp", "val"):
                self.assert_decls(f"abcd({one}, {two}) : exp", (("abcd", (one, two), "exp"),))

    def test_any_order(self):
        a, b, c = ("a", (), "com"), ("ab", ("val",), "exp"), ("b", ("com", "exp"), "com")
        texts = {a: "a : com", b: "ab(val) : exp", c: "b(com, exp) : com"}
        for order in [(a, b, c), (a, c, b), (b, a, c), (b, c, a), (c, a, b), (c, b, a)]:
            self.assert_decls(", ".join(texts[decl] for decl in order), (a, b, c))
        self.assert_decls("b(com, exp) : com, a : com", (a, c))


class LongTextsTest(unittest.TestCase):
    def test_lengths(self):
        for text in ("|- com : skip", "p : com |- com : p; skip"):
            for padded in (text.ljust(6000), text.rjust(6000), text.replace("|-", "|-" + " " * (6000 - len(text)))):
                self.assertEqual(len(padded), 6000)
                self.assertEqual(read_piece(padded), read_piece(text))

    def test_long_rows(self):
        for count in (199, 200, 201, 400, 1197):
            text = "|- com : " + ";".join(["skip"] * count)
            with self.subTest(count):
                if count <= 200:
                    self.assertEqual(read_piece(text), program("com", row_of([SKIP] * count)))
                else:
                    self.assertIs(error_of(read_piece, text), TooLarge)

    def test_long_rows_of_calls(self):
        text = "p:com|-com:" + ";".join(["p"] * 2990)
        self.assertIs(error_of(read_piece, text), TooLarge)
        self.assertIs(error_of(read_piece, text[:-1] + "q"), BadName)
        self.assertIs(error_of(read_piece, "p:com|-com:" + ";".join(["p"] * 2980) + ";new x=p{p}"), BadKind)

    def test_long_sums(self):
        for count in (29, 30, 31, 100, 2990):
            for sign, word in (("+", "add"), ("*", "mul")):
                text = "|-exp:" + sign.join(["1"] * count)
                with self.subTest(count=count, sign=sign):
                    if count <= 30 and sign == "+":
                        self.assertEqual(read_piece(text), program("exp", sum_of(count)))
                    else:
                        self.assertIs(error_of(read_piece, text), TooLarge if count > 30 else None)
        self.assertIs(error_of(read_piece, "|-exp:" + "+".join(["1"] * 2990) + "+q"), BadName)

    def test_text_is_read_anew_each_time(self):
        text = "p : com |- com : p; new x = 1 { x := x }"
        self.assertEqual(read_piece(text), read_piece(text))


if __name__ == "__main__":
    unittest.main()
