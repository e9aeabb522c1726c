"""[8.4]: the code of pieces."""

import copy
import unittest

from doppelganger.compiler import compile_piece
from doppelganger.cpu import run_code
from doppelganger.errors import TooLarge
from doppelganger.instructions import is_code
from doppelganger.names import check_piece
from doppelganger.reader import read_piece
from doppelganger.unfold import unfolded_size
from generate import leaving_pieces, lively_pieces, pieces, playful_pieces
from helpers import SKIP, error_of, row_of
from reference_code import Coder
from reference_plays import TooBig

DECLS = "e : exp, f(com, exp) : com, g(val, val) : exp"


def code_of(text, decls=DECLS):
    return compile_piece(read_piece(f"{decls} |- {text}"))


class CodeCase(unittest.TestCase):
    def assert_codes(self, cases):
        for text, code in cases:
            with self.subTest(text):
                self.assertEqual(code_of(text), code)
                self.assertTrue(is_code(code))

    def assert_command(self, cases):
        """The code of a command is followed by the answer."""
        self.assert_codes([(f"com : {text}", code + [("push", 0), ("end",)]) for text, code in cases])

    def assert_expression(self, cases):
        self.assert_codes([(f"exp : {text}", code + [("end",)]) for text, code in cases])


class TermsTest(CodeCase):
    def test_examples(self):
        self.assertEqual(code_of("exp : 1 + 2", ""), [("push", 1), ("push", 2), ("add",), ("end",)])
        self.assertEqual(code_of("com : p", "p : com"), [("call", 0, 1, 0), ("pop",), ("push", 0), ("end",)])

    def test_plain_terms(self):
        self.assert_command([
            ("skip", []), ("stop", [("stop",)]), ("fault", [("fault",)]), ("skip; skip", []), ("stop; fault", [("stop",), ("fault",)]),
        ])
        self.assert_expression([
            ("0", [("push", 0)]), ("1", [("push", 1)]), ("2", [("push", 2)]), ("stop", [("stop",)]), ("fault", [("fault",)]),
            ("do { stop } [ 2 ]", [("stop",), ("push", 2)]), ("do { skip; fault } [ 1 ]", [("fault",), ("push", 1)]),
        ])

    def test_operators(self):
        words = {"+": "add", "-": "sub", "*": "mul", "==": "equal", "<": "less"}
        self.assert_expression([(f"1 {sign} 2", [("push", 1), ("push", 2), (word,)]) for sign, word in words.items()])
        self.assert_expression([
            ("2 - (1 - 0)", [("push", 2), ("push", 1), ("push", 0), ("sub",), ("sub",)]),
            ("2 - 1 - 0", [("push", 2), ("push", 1), ("sub",), ("push", 0), ("sub",)]),
            ("1 + fault", [("push", 1), ("fault",), ("add",)]), ("stop == 1", [("stop",), ("push", 1), ("equal",)]),
        ])

    def test_conditions(self):
        self.assert_command([
            ("if 1 { stop } { fault }", [("push", 1), ("jzero", 4), ("stop",), ("jump", 5), ("fault",)]),
            ("if 1 { skip } { skip }", [("push", 1), ("jzero", 3), ("jump", 3)]),
            ("stop; if 0 { stop; stop } { skip }; fault",
             [("stop",), ("push", 0), ("jzero", 6), ("stop",), ("stop",), ("jump", 6), ("fault",)]),
            ("if 1 { if 2 { stop } { fault } } { stop }",
             [("push", 1), ("jzero", 8), ("push", 2), ("jzero", 6), ("stop",), ("jump", 7), ("fault",), ("jump", 9), ("stop",)]),
        ])
        self.assert_expression([
            ("if 1 [ 2 ] [ 0 ]", [("push", 1), ("jzero", 4), ("push", 2), ("jump", 5), ("push", 0)]),
            ("if if 1 [ 2 ] [ 0 ] [ 1 ] [ 2 ]", [("push", 1), ("jzero", 4), ("push", 2), ("jump", 5), ("push", 0),
                                                 ("jzero", 8), ("push", 1), ("jump", 9), ("push", 2)]),
        ])

    def test_loops(self):
        self.assert_command([
            ("while 1 { stop }", [("push", 1), ("jzero", 4), ("stop",), ("jump", 0)]),
            ("fault; while 1 { skip }; fault", [("fault",), ("push", 1), ("jzero", 4), ("jump", 1), ("fault",)]),
            ("while 1 { while 2 { skip } }", [("push", 1), ("jzero", 6), ("push", 2), ("jzero", 5), ("jump", 2), ("jump", 0)]),
        ])

    def test_variables(self):
        self.assert_command([
            ("new x = 1 { skip }", [("push", 1), ("open",), ("close",)]),
            ("new x = 1 { x := x }", [("push", 1), ("open",), ("load", 0), ("store", 0), ("close",)]),
            ("new x = 1 { new y = x { x := y } }",
             [("push", 1), ("open",), ("load", 0), ("open",), ("load", 1), ("store", 0), ("close",), ("close",)]),
            ("new x = 1 { new x = x { x := 2 }; x := 0 }", [("push", 1), ("open",), ("load", 0), ("open",), ("push", 2), ("store", 1),
                                                            ("close",), ("push", 0), ("store", 0), ("close",)]),
            ("new x = 1 { skip }; new y = 2 { y := 0 }",
             [("push", 1), ("open",), ("close",), ("push", 2), ("open",), ("push", 0), ("store", 0), ("close",)]),
        ])
        self.assert_expression([
            ("new x = 1 [ x ] + new y = 2 [ y ]",
             [("push", 1), ("open",), ("load", 0), ("close",), ("push", 2), ("open",), ("load", 0), ("close",), ("add",)]),
            ("new x = new y = 1 [ y ] [ x ]", [("push", 1), ("open",), ("load", 0), ("close",), ("open",), ("load", 0), ("close",)]),
        ])

    def test_blocks(self):
        self.assert_command([
            ("block k { skip }", [("block", 2), ("unblock",)]),
            ("block k { exit k }", [("block", 3), ("exit", 0), ("unblock",)]),
            ("stop; block k { fault }; stop", [("stop",), ("block", 4), ("fault",), ("unblock",), ("stop",)]),
            ("block k { block j { exit k; exit j } }",
             [("block", 6), ("block", 5), ("exit", 0), ("exit", 1), ("unblock",), ("unblock",)]),
            ("block k { block k { exit k }; exit k }",
             [("block", 6), ("block", 4), ("exit", 1), ("unblock",), ("exit", 0), ("unblock",)]),
            ("block k { skip }; block j { exit j }", [("block", 2), ("unblock",), ("block", 5), ("exit", 0), ("unblock",)]),
        ])
        self.assert_expression([
            ("do { block k { new x = exit k { skip } } } [ 1 ]",
             [("block", 5), ("exit", 0), ("open",), ("close",), ("unblock",), ("push", 1)]),
        ])


class CallsTest(CodeCase):
    def test_results(self):
        self.assert_expression([("e", [("call", 0, 0, 0)]), ("1 + e", [("push", 1), ("call", 0, 0, 0), ("add",)]),
                                ("do { f({ skip }, 1) } [ e ]", [("jump", 5), ("push", 0), ("end",), ("push", 1), ("end",),
                                                                 ("call", 1, 1, 0, 1, 3), ("pop",), ("call", 0, 0, 0)])])
        self.assert_command([("new x = e { skip }", [("call", 0, 0, 0), ("open",), ("close",)])])

    def test_values(self):
        self.assert_expression([
            ("g(1, 2)", [("push", 1), ("push", 2), ("call", 2, 0, 2)]),
            ("g(1, g(2, 0))", [("push", 1), ("push", 2), ("push", 0), ("call", 2, 0, 2), ("call", 2, 0, 2)]),
            ("g(e, 1 + 1)", [("call", 0, 0, 0), ("push", 1), ("push", 1), ("add",), ("call", 2, 0, 2)]),
        ])

    def test_arguments_by_name(self):
        self.assert_command([
            ("f({ skip }, 1)", [("jump", 5), ("push", 0), ("end",), ("push", 1), ("end",), ("call", 1, 1, 0, 1, 3), ("pop",)]),
            ("stop; f({ stop }, e)", [("stop",), ("jump", 7), ("stop",), ("push", 0), ("end",), ("call", 0, 0, 0), ("end",),
                                      ("call", 1, 1, 0, 2, 5), ("pop",)]),
            ("f({ f({ skip }, 2) }, 1)", [
                ("jump", 12), ("jump", 6), ("push", 0), ("end",), ("push", 2), ("end",), ("call", 1, 1, 0, 2, 4), ("pop",),
                ("push", 0), ("end",), ("push", 1), ("end",), ("call", 1, 1, 0, 1, 10), ("pop",)]),
        ])

    def test_arguments_of_each_type(self):
        value, name, command = [("push", 1)], [("push", 2), ("end",)], [("stop",), ("push", 0), ("end",)]
        for types, args, expected in [
            ("(val)", "(1)", value + [("call", 0, 1, 1), ("pop",)]),
            ("(exp)", "(2)", [("jump", 3)] + name + [("call", 0, 1, 0, 1), ("pop",)]),
            ("(com)", "({ stop })", [("jump", 4)] + command + [("call", 0, 1, 0, 1), ("pop",)]),
            ("(val, exp)", "(1, 2)", [("jump", 3)] + name + value + [("call", 0, 1, 1, 1), ("pop",)]),
            ("(exp, val)", "(2, 1)", [("jump", 3)] + name + value + [("call", 0, 1, 1, 1), ("pop",)]),
            ("(com, val)", "({ stop }, 1)", [("jump", 4)] + command + value + [("call", 0, 1, 1, 1), ("pop",)]),
            ("(com, exp)", "({ stop }, 2)", [("jump", 6)] + command + name + [("call", 0, 1, 0, 1, 4), ("pop",)]),
            ("(exp, com)", "(2, { stop })", [("jump", 6)] + name + command + [("call", 0, 1, 0, 1, 3), ("pop",)]),
            ("(val, val)", "(1, 1)", value * 2 + [("call", 0, 1, 2), ("pop",)]),
        ]:
            with self.subTest(types):
                self.assertEqual(code_of(f"com : p{args}", f"p{types} : com"), expected + [("push", 0), ("end",)])
                self.assertEqual(code_of(f"exp : p{args}", f"p{types} : exp"),
                                 [("call", 0, 0, *each[3:]) if each[0] == "call" else each for each in expected[:-1]] + [("end",)])

    def test_names_are_numbered_in_order(self):
        for at, name in enumerate("abc"):
            self.assertEqual(code_of(f"exp : {name}", "c : exp, a : exp, b : exp")[0], ("call", at, 0, 0))

    def test_variables_and_marks_in_arguments(self):
        self.assert_command([
            ("new x = 1 { block k { f({ x := 2; exit k }, x) } }", [
                ("push", 1), ("open",), ("block", 14), ("jump", 11), ("push", 2), ("store", 0), ("exit", 0), ("push", 0), ("end",),
                ("load", 0), ("end",), ("call", 1, 1, 0, 4, 9), ("pop",), ("unblock",), ("close",)]),
            ("new x = 1 { f({ new y = x { block k { x := y } } }, 1) }", [
                ("push", 1), ("open",), ("jump", 14), ("load", 0), ("open",), ("block", 9), ("load", 1), ("store", 0), ("unblock",),
                ("close",), ("push", 0), ("end",), ("push", 1), ("end",), ("call", 1, 1, 0, 3, 12), ("pop",), ("close",)]),
        ])

    def test_exits_within_arguments(self):
        code = code_of("com : block j { f({ block k { f({ if e { exit k } { exit j } }, 1) } }, 2) }")
        exits = [each for each in code if each[0] == "exit"]
        self.assertEqual(exits, [("exit", 1), ("exit", 0)])


class ProceduresTest(CodeCase):
    def test_bodies(self):
        self.assert_command([
            ("proc p() : com { stop } { p; p }", [("stop",), ("stop",)]),
            ("proc p() : com { stop } { skip }", []),
            ("proc p(a : com) : com { a; a } { p({ stop }) }", [("stop",), ("stop",)]),
            ("proc p(a : com, b : exp) : com { if b { a } { skip } } { p({ stop }, 1) }",
             [("push", 1), ("jzero", 4), ("stop",), ("jump", 4)]),
            ("proc p(a : val) : com { a := a } { p(2) }", [("push", 2), ("open",), ("load", 0), ("store", 0), ("close",)]),
            ("proc p(a : val, b : val) : com { a := b } { p(1, 2) }", [
                ("push", 1), ("open",), ("push", 2), ("open",), ("load", 1), ("store", 0), ("close",), ("close",)]),
        ])
        self.assert_expression([
            ("proc p(a : exp) : exp [ a + a ] [ p(2) ]", [("push", 2), ("push", 2), ("add",)]),
            ("proc p(a : exp, b : val) : exp [ b + a ] [ p(2, 1) ]",
             [("push", 1), ("open",), ("load", 0), ("push", 2), ("add",), ("close",)]),
        ])

    def test_variables_are_numbered_where_they_stand(self):
        self.assert_command([
            # The argument stands within the variable of the parameter, which takes the next number.
            ("new x = 0 { proc p(v : val, a : com) : com { a; x := v } { p(1, { x := 2; new y = 1 { y := x } }) } }", [
                ("push", 0), ("open",), ("push", 1), ("open",), ("push", 2), ("store", 0), ("push", 1), ("open",), ("load", 0),
                ("store", 2), ("close",), ("load", 1), ("store", 0), ("close",), ("close",)]),
            ("proc p(v : val) : com { proc q(w : val) : com { w := v } { q(v) } } { new x = 2 { p(x) } }", [
                ("push", 2), ("open",), ("load", 0), ("open",), ("load", 1), ("open",), ("load", 1), ("store", 2),
                ("close",), ("close",), ("close",)]),
        ])

    def test_marks_are_numbered_where_they_stand(self):
        self.assert_command([
            ("block k { proc p(a : com) : com { block j { a; exit j } } { p({ exit k }) } }",
             [("block", 6), ("block", 5), ("exit", 0), ("exit", 1), ("unblock",), ("unblock",)]),
            ("block k { proc p() : com { exit k } { block j { p } } }",
             [("block", 5), ("block", 4), ("exit", 0), ("unblock",), ("unblock",)]),
        ])


class LimitTest(unittest.TestCase):
    def assert_limit(self, piece, is_refused):
        self.assertIsNone(check_piece(piece))
        self.assertIs(error_of(compile_piece, piece), TooLarge if is_refused else None)

    def test_lengths(self):
        for calls in (1, 2, 100, 190):
            for more in range(5):
                term = row_of([("if", ("num", 1), SKIP, SKIP)] + [("call", "p", ())] * calls + [("fault",)] * more)
                self.assertEqual(len(compile_piece(((("p", (), "com"),), "com", term))), 3 + 2 * calls + more + 2)

    def test_lengths_at_the_limit(self):
        for size in range(596, 606):
            blocks, rest = divmod(size - 2, 10)
            step = ("block", "k", ("block", "k", ("block", "k", ("block", "k", ("call", "p", ())))))
            term = row_of([step] * blocks + [("fault",)] * rest)
            piece = ((("p", (), "com"),), "com", term)
            self.assert_limit(piece, size > 600)
            if size <= 600:
                self.assertEqual(len(compile_piece(piece)), size)
                self.assertTrue(is_code(compile_piece(piece)))

    def test_numbers(self):
        for inner in ("1", "x", "e", "g(1, 1)", "new x = 1 [ x ]", "do { skip } [ 1 ]", "if 1 [ 1 ] [ 1 ]", "1 + 1", "f({ skip })"):
            more = {"1 + 1": 1, "g(1, 1)": 1}.get(inner, 0)
            for depth in (38, 39, 40):
                piece = deep_piece("2 - (", ")", depth, inner)
                # So many left operands wait, and at least one number more is there.
                self.assert_limit(piece, depth + 1 + more > 40)
                if depth + 1 + more <= 40:
                    self.assertEqual(Coder(piece).most["numbers"], depth + 1 + more)
        for depth in (38, 39, 40):
            self.assert_limit(deep_piece("g(2, ", ")", depth, "1"), depth + 1 > 40)
            self.assert_limit(deep_piece("g(", ", 2)", depth, "1"), False)
            # The values are popped when the call waits.
            self.assert_limit(deep_piece("h(2, ", ")", depth, "1", "h(val, exp) : exp"), False)

    def test_numbers_of_commands(self):
        for depth in (39, 40):
            for inner, more in [("do { c } [ stop ]", 1), ("do { x := 1 } [ stop ]", 1), ("do { f({ skip }) } [ stop ]", 1),
                                ("do { block k { exit k } } [ stop ]", 0)]:
                piece = deep_piece("2 - (", ")", depth, inner, "c : com, f(com) : com")
                if more or depth < 40:
                    self.assert_limit(piece, depth + more > 40)

    def test_variables(self):
        for depth in (38, 39, 40, 41):
            self.assert_limit(deep_piece("new x = 1 [ ", " ]", depth, "x"), depth + 1 > 40)
            self.assert_limit(deep_piece("new x = 1 [ ", " ]", depth, "1"), depth + 1 > 40)
            self.assert_limit(deep_piece("new x = new y = 1 [ y ] [ ", " ]", depth, "1"), depth + 1 > 40)
            self.assert_limit(deep_piece("new x = 1 [ f({ x := 1 }) + ", " ]", depth, "1"), depth + 1 > 40)
            # These are not open at the same time.
            self.assert_limit(deep_piece("new x = 1 [ 1 ] + ", "", depth, "1"), False)

    def test_marks(self):
        for depth in (38, 39, 40, 41):
            self.assert_limit(deep_piece("do { block k { x := ", " } } [ 1 ]", depth, "1", group=4), depth > 40)
            self.assert_limit(deep_piece("f({ block k { x := ", " } })", depth, "1", group=4), depth > 40)
            self.assert_limit(deep_piece("do { block k { x := 1 } } [ ", " ]", depth, "1"), False)

    def test_pieces_that_are_too_large_to_unfold(self):
        for steps in (19, 20, 21):
            body = "; ".join(["skip"] * steps)
            piece = read_piece(f"|- com : proc p() : com {{ {body} }} {{ " + "; ".join(["p"] * 10) + " }")
            self.assert_limit(piece, 20 * steps - 1 > 400)
            self.assertIs(error_of(unfolded_size, piece), error_of(compile_piece, piece))

    def test_pieces_beyond_the_border_have_code(self):
        piece = read_piece("f(com) : com |- com : f({ block k { f({ exit k }) } })")
        self.assertEqual(compile_piece(piece), [
            ("jump", 11), ("block", 9), ("jump", 6), ("exit", 0), ("push", 0), ("end",), ("call", 0, 1, 0, 3), ("pop",), ("unblock",),
            ("push", 0), ("end",), ("call", 0, 1, 0, 1), ("pop",), ("push", 0), ("end",)])
        self.assertTrue(is_code(compile_piece(piece)))


def deep_piece(before, behind, depth, inner, decls="e : exp, f(com) : exp, g(val, val) : exp", group=10):
    """A piece with an expression nested deeper than a term may be, by procedures for some levels each."""
    text = inner
    front = ""
    for at in range(depth // group):
        name = "ab"[at % 2] + "ijlmnopq"[at // 2]
        front += f"proc {name}(v : exp) : exp [ {before * group}v{behind * group} ] [ "
        text = f"{name}({text})"
    rest = depth % group
    text = before * rest + text + behind * rest
    return read_piece(f"{decls} |- exp : new x = 0 [ {front}{text}{' ]' * (depth // group)} ]")


class ComparedTest(unittest.TestCase):
    def test_compared_with_another_account(self):
        told = {}
        for piece in (playful_pieces(150, 5, 70) + leaving_pieces(100, 6, 71) + lively_pieces(150, 6, 72) + pieces(100, 5, seed=73)
                      + playful_pieces(40, 8, 74)):
            if error_of(check_piece, piece) is not None:
                continue
            before = copy.deepcopy(piece)
            try:
                coder = Coder(piece)
                is_refused = len(coder.code) > 600 or max(coder.most.values()) > 40
            except TooBig:
                is_refused = True
            if is_refused:
                self.assertIs(error_of(compile_piece, piece), TooLarge)
            else:
                self.assertEqual(compile_piece(piece), coder.code)
                self.assertTrue(is_code(coder.code))
            self.assertEqual(piece, before)
            told[is_refused] = told.get(is_refused, 0) + 1
        self.assertGreater(told[False], 300)

    def test_code_that_was_returned_may_be_changed(self):
        piece = read_piece("|- exp : 1 + 2")
        code = compile_piece(piece)
        code.clear()
        self.assertEqual(len(compile_piece(piece)), 4)
        self.assertEqual(run_code(compile_piece(piece), [(2, 0), (0, 0)], 0), ("done", 0, 2))


if __name__ == "__main__":
    unittest.main()
