"""[1.6] to [1.8]: what binds a name, and whether each use fits it."""

import unittest

from doppelganger.errors import BadKind, BadName, NotAllowed, TooLarge
from doppelganger.names import check_piece, used_names
from helpers import ONE, PLAIN, SKIP, error_of, program, row_of

STOP = ("stop",)
ARGS = [
    (), (("exp", ONE),), (("com", SKIP),), (("exp", ONE), ("exp", ONE)), (("exp", ONE), ("com", SKIP)),
    (("com", SKIP), ("exp", ONE)), (("com", SKIP), ("com", SKIP)),
]
TYPES = [()] + [(one,) for one in ("com", "exp", "val")] + [
    (one, two) for one in ("com", "exp", "val") for two in ("com", "exp", "val")
]
SIGNATURES = [(types, result) for types in TYPES for result in ("com", "exp")]


def uses():
    """All uses of the name n, as pairs (kind, term)."""
    found = [("exp", ("read", "n")), ("com", ("set", "n", ONE)), ("com", ("exit", "n")), ("exp", ("exit", "n"))]
    for kind in ("com", "exp"):
        found.extend((kind, ("call", "n", args)) for args in ARGS)
    return found


def fits(kind, term, sort):
    """Whether a use fits a sort of binding: "variable", "label" or a pair (types, result)."""
    if sort in ("variable", "label"):
        return term[0] in (("read", "set") if sort == "variable" else ("exit",))
    types, result = sort
    if term[0] != "call" or kind != result:
        return False
    return [arg[0] for arg in term[2]] == ["com" if each == "com" else "exp" for each in types]


def as_command(kind, term):
    return term if kind == "com" else ("new", "z", term, SKIP)


def params_of(types):
    return tuple((name, each) for name, each in zip(("a", "b"), types))


# For each way to bind n inside a term: its name, the sort of binding, and the command around a command.
INNER = [
    ("new", "variable", lambda c: ("new", "n", ONE, c)),
    ("block", "label", lambda c: ("block", "n", c)),
    ("parameter val", "variable", lambda c: ("proc", "q", (("n", "val"),), "com", c, SKIP)),
    ("parameter com", ((), "com"), lambda c: ("proc", "q", (("n", "com"),), "com", c, SKIP)),
    ("parameter exp", ((), "exp"), lambda c: ("proc", "q", (("n", "exp"),), "com", c, SKIP)),
    ("second parameter", ((), "exp"), lambda c: ("proc", "q", (("m", "val"), ("n", "exp")), "com", c, SKIP)),
    ("parameter beside", "variable", lambda c: ("proc", "q", (("n", "val"), ("m", "exp")), "com", c, SKIP)),
    ("parameter of its own name", ((), "com"), lambda c: ("proc", "n", (("n", "com"),), "com", c, SKIP)),
] + [
    (f"proc {types} {result}", (types, result),
     lambda c, types=types, result=result: ("proc", "n", params_of(types), result, PLAIN[result], c))
    for types, result in SIGNATURES
]


class UsesTest(unittest.TestCase):
    def assert_use(self, piece, kind, term, sort):
        expected = None if fits(kind, term, sort) else BadKind
        with self.subTest(use=term, kind=kind, sort=sort, piece=piece):
            self.assertIs(error_of(check_piece, piece), expected)

    def test_name_that_is_not_bound(self):
        for kind, term in uses():
            for decls in ((), (("m", (), "com"),), (("m", (), "com"), ("nn", (), "exp"))):
                with self.subTest(use=term, decls=decls):
                    self.assertIs(error_of(check_piece, (decls, kind, term)), BadName)

    def test_uses_of_declared_names(self):
        for kind, term in uses():
            for types, result in SIGNATURES:
                for before, behind in (((), ()), ((("m", (), "com"),), (("o", (), "com"),))):
                    decls = before + (("n", types, result),) + behind
                    self.assert_use((decls, kind, term), kind, term, (types, result))

    def test_uses_of_inner_names(self):
        for kind, term in uses():
            for _, sort, wrap in INNER:
                self.assert_use(program("com", wrap(as_command(kind, term))), kind, term, sort)

    def test_inner_bindings_hide_declarations(self):
        for kind, term in uses():
            for types, result in (((), "com"), ((), "exp"), (("com",), "com"), (("val", "com"), "exp")):
                for _, sort, wrap in INNER:
                    piece = ((("n", types, result),), "com", wrap(as_command(kind, term)))
                    self.assert_use(piece, kind, term, sort)

    def test_inner_bindings_hide_outer_ones(self):
        chosen = INNER[:8] + INNER[8:14]
        for kind, term in uses():
            for _, _, outer in chosen:
                for _, sort, inner in chosen:
                    piece = program("com", outer(inner(as_command(kind, term))))
                    self.assert_use(piece, kind, term, sort)

    def test_behind_an_inner_binding_the_outer_one_holds(self):
        for kind, term in uses():
            for _, sort, outer in INNER[:14]:
                for _, _, inner in INNER[:14]:
                    piece = program("com", outer(("seq", inner(SKIP), as_command(kind, term))))
                    self.assert_use(piece, kind, term, sort)

    def test_bindings_end_with_their_part(self):
        for kind, term in uses():
            for name, _, wrap in INNER:
                with self.subTest(use=term, binding=name):
                    behind = ("seq", wrap(SKIP), as_command(kind, term))
                    self.assertIs(error_of(check_piece, program("com", behind)), BadName)

    def test_kind_of_a_call_is_told_by_its_place(self):
        decls = (("c", (), "com"), ("e", (), "exp"))
        call_c, call_e = ("call", "c", ()), ("call", "e", ())
        for kind, wrap in [
            ("com", lambda t: ("while", t, SKIP)), ("com", lambda t: ("set", "x", t)), ("exp", lambda t: ("add", ONE, t)),
            ("exp", lambda t: ("do", SKIP, t)), ("exp", lambda t: ("if", ONE, ONE, t)), ("exp", lambda t: ("new", "y", ONE, t)),
            ("com", lambda t: ("proc", "g", (), "exp", t, SKIP)),
        ]:
            for call, expected in ((call_e, None), (call_c, BadKind)):
                piece = (decls, "com", ("new", "x", ONE, as_command(kind, wrap(call))))
                with self.subTest(piece):
                    self.assertIs(error_of(check_piece, piece), expected)
        for kind, wrap in [
            ("com", lambda t: ("seq", SKIP, t)), ("com", lambda t: ("while", ONE, t)), ("com", lambda t: ("if", ONE, t, SKIP)),
            ("com", lambda t: ("block", "k", t)), ("exp", lambda t: ("do", t, ONE)), ("com", lambda t: ("new", "y", ONE, t)),
            ("exp", lambda t: ("proc", "g", (), "com", t, ONE)),
        ]:
            for call, expected in ((call_c, None), (call_e, BadKind)):
                piece = (decls, kind, wrap(call))
                with self.subTest(piece):
                    self.assertIs(error_of(check_piece, piece), expected)


class ScopesTest(unittest.TestCase):
    def assert_error(self, kind, term, expected, decls=()):
        with self.subTest(term):
            self.assertIs(error_of(check_piece, (decls, kind, term)), expected)

    def test_new_does_not_bind_in_its_value(self):
        self.assert_error("exp", ("new", "x", ("read", "x"), ONE), BadName)
        self.assert_error("exp", ("new", "x", ONE, ("new", "x", ("read", "x"), ("read", "x"))), None)
        self.assert_error("com", ("block", "x", ("new", "x", ("exit", "x"), SKIP)), None)
        self.assert_error("com", ("new", "x", ONE, ("set", "x", ("read", "x"))), None)

    def test_proc_does_not_bind_its_name_in_its_body(self):
        call = ("call", "f", ())
        self.assert_error("com", ("proc", "f", (), "com", call, SKIP), BadName)
        self.assert_error("com", ("proc", "f", (), "com", SKIP, call), None)
        self.assert_error("com", ("proc", "f", (), "com", call, SKIP), None, (("f", (), "com"),))
        self.assert_error("com", ("proc", "f", (), "exp", ONE, ("proc", "f", (), "com", call, SKIP)), BadKind)
        self.assert_error("com", ("proc", "f", (), "com", SKIP, ("proc", "f", (), "com", call, call)), None)

    def test_proc_binds_its_parameters_in_its_body_alone(self):
        for name, of_type, use in [("v", "val", ("set", "v", ONE)), ("c", "com", ("call", "c", ()))]:
            self.assert_error("com", ("proc", "f", ((name, of_type),), "com", use, SKIP), None)
            self.assert_error("com", ("proc", "f", ((name, of_type),), "com", SKIP, use), BadName)
        self.assert_error("exp", ("proc", "f", (("e", "exp"),), "exp", ("call", "e", ()), ONE), None)
        self.assert_error("exp", ("proc", "f", (("e", "exp"),), "exp", ONE, ("call", "e", ())), BadName)

    def test_parameter_with_the_name_of_its_procedure(self):
        term = ("proc", "f", (("f", "val"),), "com", ("set", "f", ONE), ("call", "f", (("exp", ONE),)))
        self.assert_error("com", term, None)
        self.assert_error("com", term[:5] + (("set", "f", ONE),), BadKind)

    def test_label_is_bound_in_bodies_and_arguments(self):
        leave = ("exit", "k")
        self.assert_error("com", ("block", "k", ("proc", "f", (), "com", leave, SKIP)), None)
        self.assert_error("com", ("block", "k", ("proc", "f", (), "exp", leave, SKIP)), None)
        call = ("call", "f", (("com", leave), ("exp", leave)))
        self.assert_error("com", ("block", "k", call), None, (("f", ("com", "val"), "com"),))
        self.assert_error("com", ("seq", ("block", "k", SKIP), leave), BadName)
        self.assert_error("com", ("proc", "f", (), "com", leave, ("block", "k", ("call", "f", ()))), BadName)

    def test_labels_of_outer_blocks(self):
        inner = ("block", "j", ("seq", ("exit", "j"), ("exit", "k")))
        self.assert_error("com", ("block", "k", inner), None)
        self.assert_error("com", ("block", "k", ("block", "k", ("exit", "k"))), None)

    def test_names_in_arguments_are_those_around_the_call(self):
        use = ("call", "f", (("com", ("set", "a", ONE)),))
        self.assert_error("com", ("proc", "f", (("a", "com"),), "com", SKIP, use), BadName)
        self.assert_error("com", ("new", "a", ONE, ("proc", "f", (("a", "com"),), "com", SKIP, use)), None)
        self.assert_error("com", ("proc", "f", (("a", "com"),), "com", SKIP, ("new", "a", ONE, use)), None)

    def test_names_in_bodies_are_those_around_the_procedure(self):
        self.assert_error("com", ("proc", "f", (), "com", ("set", "x", ONE), ("new", "x", ONE, ("call", "f", ()))), BadName)
        self.assert_error("com", ("new", "x", ONE, ("proc", "f", (), "com", ("set", "x", ONE), ("call", "f", ()))), None)

    def test_recursion_by_another_procedure_is_not_there(self):
        term = ("proc", "f", (), "com", ("call", "g", ()), ("proc", "g", (), "com", ("call", "f", ()), SKIP))
        self.assert_error("com", term, BadName)

    def test_sound_pieces_return_none(self):
        self.assertIsNone(check_piece(program("com", ("new", "x", ONE, ("set", "x", ("read", "x"))))))


class FirstFaultTest(unittest.TestCase):
    """Each fault is a command that raises its error where the names of DECLS alone are bound."""

    DECLS = (("c", (), "com"), ("f", ("com", "exp"), "com"))
    NAME = ("set", "x", ONE)
    KIND = ("set", "c", ONE)

    def assert_first(self, first, second, wrap):
        for one, two in ((first, second), (second, first)):
            piece = (self.DECLS, "com", wrap(one, two))
            with self.subTest(piece):
                expected = BadName if one == first else BadKind
                self.assertIs(error_of(check_piece, piece), expected)

    def test_first_node_with_a_fault(self):
        name, kind = self.NAME, self.KIND
        for wrap in [
            lambda one, two: ("seq", one, two),
            lambda one, two: row_of([SKIP, one, SKIP, SKIP, two]),
            lambda one, two: ("if", ONE, one, two),
            lambda one, two: ("if", ("do", one, ONE), two, SKIP),
            lambda one, two: ("while", ("do", one, ONE), two),
            lambda one, two: ("new", "y", ("do", one, ONE), two),
            lambda one, two: ("proc", "p", (), "com", one, two),
            lambda one, two: ("call", "f", (("com", one), ("exp", ("do", two, ONE)))),
            lambda one, two: ("seq", ("while", ONE, ("block", "k", one)), two),
            lambda one, two: as_command("exp", ("add", ("do", one, ONE), ("do", two, ONE))),
            lambda one, two: as_command("exp", ("do", one, ("do", two, ONE))),
        ]:
            self.assert_first(name, kind, wrap)

    def test_node_comes_before_the_nodes_within_it(self):
        read, call = ("read", "x"), ("call", "c", ())
        for term, expected in [
            (("set", "x", call), BadName), (("set", "c", read), BadKind),
            (("call", "x", (("exp", call),)), BadName), (("call", "c", (("exp", read),)), BadKind),
            (("call", "f", (("exp", read),)), BadKind), (("call", "f", (("com", SKIP), ("exp", read))), BadName),
        ]:
            with self.subTest(term):
                self.assertIs(error_of(check_piece, (self.DECLS, "com", term)), expected)

    def test_too_large_comes_behind(self):
        for fault, expected in ((self.NAME, BadName), (self.KIND, BadKind), (SKIP, TooLarge)):
            for at in (0, 250, 499):
                steps = [SKIP] * at + [fault] + [SKIP] * (499 - at)
                self.assertIs(error_of(check_piece, (self.DECLS, "com", row_of(steps))), expected)
            deep = fault
            for _ in range(60):
                deep = ("while", ONE, deep)
            self.assertIs(error_of(check_piece, (self.DECLS, "com", deep)), expected)

    def test_not_allowed_comes_before(self):
        for fault in (self.NAME, self.KIND):
            self.assertIs(error_of(check_piece, (self.DECLS, "com", ("seq", fault, ONE))), NotAllowed)


class UsedNamesTest(unittest.TestCase):
    DECLS = (("a", (), "com"), ("b", (), "exp"), ("c", ("val",), "com"))

    def assert_used(self, kind, term, expected):
        piece = (self.DECLS, kind, term)
        with self.subTest(term):
            self.assertIsNone(check_piece(piece))
            self.assertEqual(used_names(piece), expected)

    def test_none(self):
        self.assert_used("com", SKIP, [])
        self.assertEqual(used_names(program("com", SKIP)), [])

    def test_each_name_once_in_ascending_order(self):
        a, b, c = ("call", "a", ()), ("call", "b", ()), ("call", "c", (("exp", ONE),))
        self.assert_used("com", a, ["a"])
        self.assert_used("exp", b, ["b"])
        self.assert_used("com", row_of([c, a, c, a]), ["a", "c"])
        self.assert_used("com", row_of([("call", "c", (("exp", b),)), a]), ["a", "b", "c"])

    def test_uses_in_each_part(self):
        a, b = ("call", "a", ()), ("call", "b", ())
        for term in [("while", b, a), ("if", b, SKIP, a), ("if", b, a, SKIP), ("new", "x", b, a), ("block", "k", ("while", b, a)),
                     ("proc", "f", (), "com", a, ("while", b, SKIP)), ("proc", "f", (), "exp", b, a)]:
            self.assert_used("com", term, ["a", "b"])

    def test_hidden_names(self):
        a = ("call", "a", ())
        self.assert_used("com", ("new", "a", ONE, ("set", "a", ("read", "a"))), [])
        self.assert_used("com", ("block", "a", ("exit", "a")), [])
        self.assert_used("com", ("proc", "a", (), "com", SKIP, a), [])
        self.assert_used("com", ("proc", "f", (("a", "com"),), "com", a, SKIP), [])
        self.assert_used("com", ("proc", "f", (("a", "val"),), "com", ("set", "a", ("read", "a")), SKIP), [])

    def test_names_that_are_hidden_elsewhere(self):
        a = ("call", "a", ())
        self.assert_used("com", ("seq", ("proc", "a", (), "com", SKIP, a), a), ["a"])
        self.assert_used("com", ("proc", "a", (), "com", a, SKIP), ["a"])
        self.assert_used("com", ("proc", "f", (("a", "com"),), "com", a, a), ["a"])
        self.assert_used("com", ("new", "b", ("call", "b", ()), ("set", "b", ("read", "b"))), ["b"])

    def test_names_that_are_not_bound_are_not_used(self):
        piece = (self.DECLS, "com", ("seq", ("set", "x", ONE), ("call", "a", ())))
        self.assertEqual(used_names(piece), ["a"])

    def test_value_is_a_list(self):
        self.assertIs(used_names((self.DECLS, "com", ("call", "a", ()))).__class__, list)


if __name__ == "__main__":
    unittest.main()
