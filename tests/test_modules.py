"""[7.1] to [7.5]: modules, their pieces and texts."""

import unittest

from doppelganger.errors import BadForm, BadKind, BadName, NotAllowed, TooLarge
from doppelganger.modules import check_module, first_state, module_text, piece_of, read_module
from doppelganger.names import check_piece
from doppelganger.terms import nodes
from doppelganger.writer import piece_text, term_text
from generate import modules
from helpers import ONE, SKIP, error_of, row_with_nodes, spread, squeezed, tokens, wrapped
from reference import error_of_piece

READ = {"x": ("read", "x"), "y": ("read", "y")}
GET = ("get", "exp", READ["x"])
SET = ("put", "com", ("set", "x", ONE))
X = (("x", 0),)
NOTHING = ("nop", "com", SKIP)
UP = "new n = 0; inc : com { n := n + 1 }; get : exp [ n ]"


def nested(level, inside, kind="exp"):
    """A term that has `inside` at a level, if it stands at the level 1 itself."""
    if kind == "com":
        return wrapped(lambda term: ("block", "k", term), level - 1, inside)
    return wrapped(lambda term: ("add", ONE, term), level - 1, inside)


class ShapeTest(unittest.TestCase):
    def assert_error(self, module, error):
        with self.subTest(module):
            self.assertIs(error_of(check_module, module), error)

    def test_numbers_of_variables_and_operations(self):
        names = ("a", "b", "c", "d")
        for many in range(5):
            variables = tuple((name, at % 3) for at, name in enumerate(names[:many]))
            for count in range(5):
                operations = tuple((name, "com", SKIP) for name in ("p", "q", "r", "s")[:count])
                self.assert_error((variables, operations), None if many <= 3 and 1 <= count <= 2 else NotAllowed)

    def test_values(self):
        for value in (-2, -1, 0, 1, 2, 3, 4, 300, "0", None):
            expected = None if value in (0, 1, 2) else NotAllowed
            self.assert_error(((("x", value),), (GET,)), expected)
            self.assert_error(((("a", 0), ("b", 0), ("x", value)), (GET,)), expected)
            self.assert_error(((("x", value), ("a", 0), ("b", 0)), (GET, NOTHING)), expected)

    def test_names(self):
        for name in ("", "X", "abcde", "skip", "val", "do", "a1", "a b", "call "):
            self.assert_error((((name, 0),), (NOTHING,)), NotAllowed)
            self.assert_error((X + ((name, 0),), (NOTHING,)), NotAllowed)
            self.assert_error((X, ((name, "com", SKIP),)), NotAllowed)
            self.assert_error((X, (NOTHING, (name, "com", SKIP))), NotAllowed)
        for name in ("a", "abcd", "hole", "q", "zzzz"):
            self.assert_error((((name, 0),), (NOTHING,)), None)
            self.assert_error((X, (NOTHING, (name, "com", SKIP))), None)

    def test_names_are_different(self):
        self.assert_error((X + X, (NOTHING,)), NotAllowed)
        self.assert_error((X + (("y", 0), ("x", 1)), (NOTHING,)), NotAllowed)
        self.assert_error((X, (NOTHING, NOTHING)), NotAllowed)
        self.assert_error((X, (NOTHING, ("nop", "exp", ONE))), NotAllowed)
        self.assert_error((X, (("x", "com", SKIP),)), NotAllowed)
        self.assert_error(((("y", 0), ("x", 0)), (NOTHING, ("x", "exp", ONE))), NotAllowed)
        self.assert_error((X, (NOTHING, ("y", "com", SKIP))), None)

    def test_names_called_call(self):
        self.assert_error(((("call", 0),), (NOTHING,)), NotAllowed)
        self.assert_error((X + (("call", 2),), (NOTHING,)), NotAllowed)
        self.assert_error((X, (("call", "com", SKIP),)), None)
        self.assert_error((X, (NOTHING, ("call", "exp", READ["x"]))), None)

    def test_kinds_and_terms(self):
        for operation in [
            ("p", "com", ONE), ("p", "exp", SKIP), ("p", "val", ONE), ("p", "val", ("stop",)), ("p", "both", ("fault",)), ("p", "", SKIP), ("p", "com", ()),
            ("p", "com", ("seq", SKIP, ("seq", SKIP, SKIP))), ("p", "exp", ("num", 3)), ("p", "com", ("skip", 1)),
            ("p", "com", ("set", "x", SKIP)), ("p", "com", ("nothing",)), ("p", "exp", ("do", ONE, ONE)),
            ("p", "com", (SKIP,)), ("p", "exp", ("read", "Y")),
        ]:
            self.assert_error((X, (operation,)), NotAllowed)
            self.assert_error((X, (GET, operation)), NotAllowed)
            self.assert_error((X, (operation, GET)), NotAllowed)

    def test_other_tuples(self):
        for module in [(), (X,), (X, (GET,), ()), ((), ()), (X, ()), (("x", 0), (GET,)), (X, GET), ((X,), (GET,)),
                       ((("x",),), (GET,)), ((("x", 0, 0),), (GET,)), (X, (("get", "exp"),)), (X, (GET + ("",),))]:
            self.assert_error(module, NotAllowed)


class NamesInOperationsTest(unittest.TestCase):
    def assert_error(self, operation, error):
        """The error of an operation as the first, the second and the only one."""
        for operations in ((operation,), (operation, ("get", "exp", ONE)), (("get", "exp", ONE), operation)):
            with self.subTest(operations):
                self.assertIs(error_of(check_module, (X, operations)), error)

    def test_names_that_are_bound(self):
        for operation in [
            ("p", "exp", READ["x"]), ("p", "com", ("set", "x", READ["x"])), ("p", "com", ("new", "y", READ["x"], SKIP)),
            ("p", "com", ("new", "y", ONE, ("set", "y", READ["x"]))), ("p", "com", ("block", "x", ("exit", "x"))),
            ("p", "com", ("proc", "call", (), "com", SKIP, ("call", "call", ()))),
            ("p", "exp", ("new", "call", ONE, ("read", "call"))), ("p", "com", ("proc", "p", (), "com", SKIP, ("call", "p", ()))),
        ]:
            self.assert_error(operation, None)

    def test_names_that_are_not_bound(self):
        for operation in [
            ("p", "exp", READ["y"]), ("p", "com", ("set", "y", ONE)), ("p", "com", ("call", "q", ())), ("p", "com", ("exit", "k")),
            ("p", "com", ("call", "call", ())), ("p", "com", ("call", "call", (("com", SKIP), ("exp", ONE)))),
            ("p", "com", ("call", "p", ())), ("p", "exp", ("call", "get", ())), ("p", "exp", ("read", "call")),
            ("p", "exp", ("new", "y", READ["y"], ONE)), ("p", "com", ("seq", ("new", "y", ONE, SKIP), ("set", "y", ONE))),
        ]:
            self.assert_error(operation, BadName)

    def test_names_that_are_bound_by_something_else(self):
        for operation in [
            ("p", "exp", ("call", "x", ())), ("p", "com", ("exit", "x")), ("p", "com", ("call", "x", (("com", SKIP),))),
            ("p", "com", ("block", "x", ("set", "x", ONE))),
            ("p", "com", ("proc", "f", (("a", "com"),), "com", SKIP, ("call", "f", ()))),
        ]:
            self.assert_error(operation, BadKind)

    def test_variables_of_the_other_places(self):
        module = ((("a", 0), ("b", 1), ("c", 2)), (
            ("p", "exp", ("add", ("read", "a"), ("add", ("read", "b"), ("read", "c")))),
            ("q", "com", ("seq", ("set", "a", ("read", "c")), ("set", "c", ("read", "b")))),
        ))
        self.assertIsNone(check_module(module))
        self.assertIs(error_of(check_module, (module[0][:2], module[1])), BadName)
        self.assertIs(error_of(check_module, ((), module[1])), BadName)

    def test_which_fault_is_told(self):
        name, kind = ("set", "y", ONE), ("exit", "x")
        large = row_with_nodes(500)
        for operations, error in [
            ((("p", "com", ("seq", name, kind)),), BadName), ((("p", "com", ("seq", kind, name)),), BadKind),
            ((("p", "com", name), ("q", "com", kind)), BadName), ((("p", "com", kind), ("q", "com", name)), BadKind),
            ((("p", "com", kind), ("q", "com", ONE)), NotAllowed),
            ((("p", "com", ("seq", large, name)), ("q", "com", kind)), BadName),
            ((("p", "com", large), ("q", "com", kind)), BadKind), ((("p", "com", large), ("q", "exp", SKIP)), NotAllowed),
            ((("p", "com", large), ("p", "com", SKIP)), NotAllowed), ((("q", "com", large), ("p", "com", SKIP)), TooLarge),
            # The nodes of the first operation come first, whatever their levels.
            ((("p", "com", nested(40, kind, "com")), ("q", "com", name)), BadKind),
            # In an assignment the variable is used before what stands in the expression.
            ((("p", "com", ("set", "y", ("call", "x", ()))),), BadName),
        ]:
            with self.subTest(operations):
                self.assertIs(error_of(check_module, (X, operations)), error)


class LimitTest(unittest.TestCase):
    def assert_size(self, module, count, level):
        piece = piece_of(module)
        found = nodes(piece[2], piece[1])
        self.assertEqual((len(found), max(each[2] for each in found)), (count, level))
        self.assertIs(error_of(check_module, module), TooLarge if count > 400 or level > 30 else None)
        self.assertIs(error_of(check_piece, piece), TooLarge if count > 400 or level > 30 else None)
        if len(module_text(module)) <= 5900:
            self.assertIs(error_of(read_module, module_text(module)), TooLarge if count > 400 or level > 30 else None)

    def test_nodes(self):
        variables = (("x", 0), ("y", 1), ("z", 2))
        for count in (399, 400, 401):
            for many in range(1, 4):
                size = count - 2 * many - 1
                term = row_with_nodes(size)
                level = max(each[2] for each in nodes(term, "com"))
                self.assert_size((variables[:many], (("p", "com", term),)), count, many + level + 1)
                first, second = row_with_nodes(100), row_with_nodes(size - 100)
                level = max(each[2] for row in (first, second) for each in nodes(row, "com"))
                self.assert_size((variables[:many], (("p", "com", first), ("q", "com", second))), count, many + level + 1)

    def test_levels(self):
        variables = (("x", 0), ("y", 1), ("z", 2))
        for level in (28, 29, 30, 31, 32):
            for many in range(4):
                term = nested(level - many - 1, ONE)
                count = 2 * (level - many - 1) - 1
                self.assert_size((variables[:many], (("p", "exp", term),)), count + 2 * many + 1, level)
                self.assert_size((variables[:many], (NOTHING, ("p", "exp", term))), count + 2 * many + 2, level)
                term = nested(level - many - 1, SKIP, "com")
                self.assert_size((variables[:many], (("p", "com", term), ("q", "exp", ONE))), level + many + 1, level)

    def test_terms_of_any_size(self):
        self.assertIs(error_of(check_module, (X, (("p", "com", row_with_nodes(5000)),))), TooLarge)
        self.assertIs(error_of(check_module, (X, (("p", "exp", nested(190, ONE)),))), TooLarge)
        self.assertIs(error_of(check_module, (X, (("p", "exp", nested(190, READ["y"])),))), BadName)


class PieceTest(unittest.TestCase):
    def test_pieces(self):
        for text, piece in [
            ("p : com { skip }", "call(com) : com |- com : call({ skip })"),
            ("p : exp [ 1 ]", "call(exp) : com |- com : call(1)"),
            ("new x = 2; p : exp [ x ]", "call(exp) : com |- com : new x = 2 { call(x) }"),
            (UP, "call(com, exp) : com |- com : new n = 0 { call({ n := n + 1 }, n) }"),
            ("new x = 1; get : exp [ x ]; put : com { x := 0 }",
             "call(exp, com) : com |- com : new x = 1 { call(x, { x := 0 }) }"),
            ("p : com { skip }; q : com { stop }", "call(com, com) : com |- com : call({ skip }, { stop })"),
            ("new a = 0; new b = 1; new c = 2; p : exp [ a ]; q : exp [ b + c ]",
             "call(exp, exp) : com |- com : new a = 0 { new b = 1 { new c = 2 { call(a, b + c) } } }"),
            ("new c = 1; new b = 1; new a = 0; call : com { a := b; b := c }",
             "call(com) : com |- com : new c = 1 { new b = 1 { new a = 0 { call({ a := b; b := c }) } } }"),
        ]:
            with self.subTest(text):
                module = read_module(text)
                self.assertEqual(piece_text(piece_of(module)), piece)
                self.assertIsNone(check_piece(piece_of(module)))
                self.assertEqual(module_text(module), text)

    def test_pieces_of_sound_modules_are_sound(self):
        sound = 0
        for module in modules(300, 4):
            decls, kind, term = piece_of(module)
            if error_of(check_module, module) is None:
                sound += 1
                self.assertIsNone(check_piece((decls, kind, term)))
            self.assertEqual(decls, (("call", tuple(each[1] for each in module[1]), "com"),))
            self.assertEqual(kind, "com")
            for name, value in module[0]:
                self.assertEqual(term[:3], ("new", name, ("num", value)))
                term = term[3]
            self.assertEqual(term, ("call", "call", tuple(each[1:] for each in module[1])))
        self.assertGreater(sound, 200)

    def test_first_states(self):
        for variables, state in [((), ()), (X, (0,)), ((("a", 2), ("b", 0), ("c", 1)), (2, 0, 1)), ((("b", 1), ("a", 2)), (1, 2))]:
            self.assertEqual(first_state((variables, (NOTHING,))), state)


class TextTest(unittest.TestCase):
    def assert_error(self, text, error):
        with self.subTest(text):
            self.assertIs(error_of(read_module, text), error)

    def test_modules_of_texts(self):
        self.assertEqual(read_module(UP), (
            (("n", 0),), (("inc", "com", ("set", "n", ("add", ("read", "n"), ONE))), ("get", "exp", ("read", "n")))))
        self.assertEqual(read_module("p:com{skip;stop}"), ((), (("p", "com", ("seq", SKIP, ("stop",))),)))
        self.assertEqual(read_module("new b = 2; new a = 1; p : exp [ a - b ]"),
                         ((("b", 2), ("a", 1)), (("p", "exp", ("sub", ("read", "a"), ("read", "b"))),)))

    def test_texts_of_modules(self):
        for module in modules(200, 5, 1):
            variables, operations = module
            text = module_text(module)
            expected = "".join(f"new {name} = {value}; " for name, value in variables)
            expected += "; ".join(
                f"{name} : com {{ {term_text(term, kind)} }}" if kind == "com" else f"{name} : exp [ {term_text(term, kind)} ]"
                for name, kind, term in operations)
            self.assertEqual(text, expected)
            if error_of(check_module, module) is None and len(text) <= 5900:
                self.assertEqual(read_module(text), module)
                self.assertEqual(read_module(squeezed(text)), module)
                if len(spread(text)) <= 5900:
                    self.assertEqual(read_module(spread(text)), module)

    def test_texts_that_break_off_or_go_on(self):
        for text in (UP, "new a = 0; new b = 1; new c = 2; p : exp [ a + b * c ]", "p : com { skip }"):
            found = tokens(text)
            ends = [at for at, token in enumerate(found) if token in "]}" and found[at + 1:at + 2] in ([";"], [])]
            for size in range(len(found)):
                self.assert_error(" ".join(found[:size]), None if size - 1 in ends else BadForm)
            for more in (";", "; ;", "}", "]", "p", "; p", "; p : com", "1", "; new x = 1", "; new x = 1;", "|- com : skip", ","):
                self.assert_error(f"{text} {more}", BadForm)

    def test_texts_with_tokens_left_out_or_twice(self):
        found = tokens(UP)
        for at, token in enumerate(found):
            self.assert_error(" ".join(found[:at] + found[at + 1:]), BadForm)
            self.assert_error(" ".join(found[:at] + [token] + found[at:]), BadForm)
            if at > 0 and found[at - 1] != token:
                self.assert_error(" ".join(found[:at - 1] + [token, found[at - 1]] + found[at + 1:]), BadForm)

    def test_texts_of_other_forms(self):
        for text in [
            "", " ", ";", "new x = 0", "new x = 0;", "new x = 0; ;", "new x = 1 + 1; p : exp [ x ]", "new x 0; p : exp [ x ]",
            "new x := 0; p : exp [ x ]", "x = 0; p : exp [ x ]", "new x = 0, p : exp [ x ]", "p : com [ skip ]", "p : exp { 1 }",
            "p : val [ 1 ]", "p = com { skip }", "p() : com { skip }", "p(com) : com { skip }", "com { skip }", "p { skip }",
            "p : com { 1 }", "p : exp [ skip ]", "p : com { }", "p : exp [ ]", "p : com skip", "p : com { skip; }",
            "p : com { skip }, q : com { skip }", "p : com { skip } q : com { skip }", "p : com { skip }; new x = 0; q : com { skip }",
            "p : com { skip }; new x = 0", "|- com : skip", "proc p() : com { skip }", "new new = 0; p : com { skip }",
            "new x = y; p : com { skip }", "new 1 = 1; p : com { skip }", "p : com { skip }; q : com { skip\n}",
        ]:
            self.assert_error(text, BadForm)

    def test_numbers_and_names(self):
        for text in [
            "new a = 0; new b = 0; new c = 0; new d = 0; p : com { y := 1 }", "p : com { y := 1 }; q : com { skip }; r : com { skip }",
            "new a = 3; p : com { y := 1 }", "new a = 0; new b = 10; p : com { skip }", "p : com { y := 1 }; q : exp [ 3 ]",
            "new a = 0; new a = 0; p : com { y := 1 }", "new p = 0; p : com { y := 1 }", "p : com { y := 1 }; p : com { skip }",
            "new a = 0; p : com { y := 1 }; a : exp [ 1 ]", "new abcde = 0; p : com { y := 1 }", "p : com { y := 1 }; abcde : com { skip }",
            "new skip = 0; p : com { y := 1 }", "p : com { y := 1 }; do : com { skip }", "new while = 0; p : com { skip }",
            "p : com { abcde := 1 }", "p : com { y := 1 }; q : com { proc f(a : com, b : com, c : com) : com { skip } { skip } }",
            "p : com { y := 1 }; q : com { proc f(a : com, a : com) : com { skip } { skip } }",
            "new call = 0; new call = 0; p : com { skip }", "new call = 0; call : com { skip }", "new call = 3; p : com { skip }",
        ]:
            self.assert_error(text, BadForm)

    def test_errors_of_check_module(self):
        for text, error in [
            ("new call = 0; p : com { skip }", NotAllowed), ("new call = 0; p : com { y := 1 }", NotAllowed),
            ("new call = 0; p : com { call := 1 }", NotAllowed), ("call : com { skip }", None), ("call : exp [ call ]", BadName),
            ("p : com { call({ skip }) }", BadName), ("p : com { y := 1 }", BadName), ("p : com { skip }; q : com { p }", BadName),
            ("new x = 0; p : exp [ x(1) ]", BadKind), ("new x = 0; p : com { x }", BadKind), ("p : com { block k { k := 1 } }", BadKind),
            ("p : com { " + "; ".join(["skip"] * 200) + " }", None), ("p : com { " + "; ".join(["skip"] * 201) + " }", TooLarge),
            ("p : com { " + "; ".join(["skip"] * 201) + " }; q : exp [ y ]", BadName),
        ]:
            self.assert_error(text, error)

    def test_lengths(self):
        for front in ("p : com { skip }", "new call = 0; p : com { skip }", "p : com { y := 1 }", "p"):
            expected = error_of(read_module, front)
            for text in (front + " " * (5900 - len(front)), " " * (5900 - len(front)) + front):
                self.assert_error(text, expected)
            self.assert_error(front + " " * (5901 - len(front)), BadForm)
            self.assert_error(" " * 6000 + front, BadForm)

    def test_nesting(self):
        for depth in range(60, 80):
            # Parentheses are atoms without nodes; the variables may count or not.
            text = "p : exp [ " + "(" * depth + "1" + ")" * depth + " ]"
            self.assert_error(text, None if depth <= 69 else BadForm)
            self.assert_error(f"q : com {{ skip }}; {text}", None if depth <= 69 else BadForm)
            text = "p : com { skip }; q : com { " + "block k { " * depth + "y := 1 " + "} " * depth + "}"
            # The expression is an atom within the steps.
            self.assert_error(text, BadName if depth <= 68 else BadForm)
        self.assert_error("p : exp [ " + "(" * 800 + "1" + ")" * 800 + " ]", BadForm)
        self.assert_error("p : exp [ " + "(" * 2900 + "1" + ")" * 2900 + " ]", BadForm)

    def test_names_alone(self):
        self.assertEqual(read_module("new n = 0; p : exp [ n ]")[1][0][2], ("read", "n"))
        self.assert_error("p : exp [ n ]", BadName)
        self.assert_error("new n = 0; p : exp [ proc n() : exp [ 1 ] [ n ] ]", None)
        self.assert_error("new n = 0; p : exp [ do { block n { skip } } [ n ] ]", None)
        self.assert_error("new n = 0; p : exp [ do { block n { exit n } } [ m ] ]", BadName)
        self.assert_error("p : exp [ do { block n { skip } } [ n ] ]", BadName)
        self.assert_error("new n = 0; p : com { block n { n := n } }", BadKind)

    def test_sounder_than_pieces(self):
        for module in modules(100, 6, 2):
            expected = error_of_piece(piece_of(module))
            self.assertIs(error_of(check_module, module), expected)


if __name__ == "__main__":
    unittest.main()
