"""[1.3], [1.4], [1.8]: what is shaped as a piece; each change of one thing is not."""

import unittest

from doppelganger.errors import NotAllowed
from doppelganger.names import check_piece
from doppelganger.terms import is_shaped
from helpers import ONE, PLAIN, PLACES, SKIP, error_of, outside, program, row_of, wrapped

STOP = ("stop",)
CALL = ("call", "f", (("exp", ONE), ("com", SKIP)))
PROC = ("proc", "f", (("a", "val"), ("b", "com")), "com", SKIP, ("set", "x", ONE))
OTHER_PROC = ("proc", "g", (), "exp", ONE, SKIP)

# One term of each sort, by its kind; "both" stands for both kinds.
TERMS = [
    ("com", SKIP), ("com", ("seq", SKIP, STOP)), ("com", ("set", "x", ONE)), ("com", ("while", ONE, SKIP)),
    ("com", ("block", "k", SKIP)),
    ("exp", ("num", 0)), ("exp", ("num", 2)), ("exp", ("read", "x")), ("exp", ("do", SKIP, ONE)),
    ("exp", ("add", ONE, ONE)), ("exp", ("sub", ONE, ONE)), ("exp", ("mul", ONE, ONE)),
    ("exp", ("equal", ONE, ONE)), ("exp", ("less", ONE, ONE)),
    ("both", STOP), ("both", ("fault",)), ("both", ("exit", "k")), ("com", ("if", ONE, SKIP, SKIP)),
    ("exp", ("if", ONE, ONE, ONE)), ("com", ("new", "x", ONE, SKIP)), ("exp", ("new", "x", ONE, ONE)),
    ("both", ("call", "p", ())), ("both", CALL), ("com", PROC), ("com", OTHER_PROC),
    ("exp", ("proc", "f", (("a", "exp"),), "com", SKIP, ONE)),
]


def with_item(items, at, item):
    return items[:at] + (item,) + items[at + 1:]


class ShapeTest(unittest.TestCase):
    def assert_shaped(self, piece):
        self.assertIs(is_shaped(piece), True)
        self.assertIsNot(error_of(check_piece, piece), NotAllowed)

    def assert_not_shaped(self, piece):
        self.assertIs(is_shaped(piece), False)
        self.assertIs(error_of(check_piece, piece), NotAllowed)

    def assert_term(self, kind, term, shaped):
        """The term is looked at as it stands, and at each place of a term around it."""
        check = self.assert_shaped if shaped else self.assert_not_shaped
        with self.subTest(kind=kind, term=term):
            check(program(kind, term))
            check(((("f", ("val", "com"), "com"), ("p", (), "exp")), kind, term))
        for name, whole, part_kind, wrap in PLACES:
            if part_kind == kind and not (name == "seq second" and term[:1] == ("seq",)):
                with self.subTest(kind=kind, term=term, place=name):
                    check(program(whole, wrap(term)))
                    check(outside(whole, wrap(term)))

    def assert_shaped_term(self, kind, term):
        self.assert_term(kind, term, True)

    def assert_no_term(self, kind, term):
        self.assert_term(kind, term, False)

    def kinds_of(self, home):
        return ("com", "exp") if home == "both" else (home,)


class TermShapeTest(ShapeTest):
    def test_terms_of_each_sort(self):
        for home, term in TERMS:
            for kind in self.kinds_of(home):
                self.assert_shaped_term(kind, term)

    def test_term_of_the_other_kind(self):
        for home, term in TERMS:
            if home != "both":
                self.assert_no_term("exp" if home == "com" else "com", term)

    def test_unknown_first_word(self):
        for home, term in TERMS:
            for kind in self.kinds_of(home):
                for word in ("", "x", "Skip", term[0] + "s", term[0].upper(), "com", "val", "both", "name", 0, 1, term, ()):
                    self.assert_no_term(kind, with_item(term, 0, word))

    def test_part_too_many(self):
        for home, term in TERMS:
            for kind in self.kinds_of(home):
                for extra in ((), SKIP, ONE, "x", 0):
                    self.assert_no_term(kind, term + (extra,))

    def test_part_too_few(self):
        for home, term in TERMS:
            for kind in self.kinds_of(home):
                for at in range(len(term)):
                    self.assert_no_term(kind, term[:at] + term[at + 1:])

    def test_number_out_of_range(self):
        for number in (-1, 3, 4, 100, -3, 10 ** 20):
            self.assert_no_term("exp", ("num", number))

    def test_number_that_is_none(self):
        for value in ("1", "x", "", (), (1,)):
            self.assert_no_term("exp", ("num", value))

    def test_name_that_is_none(self):
        places = [
            ("com", ("set", "x", ONE), 1), ("com", ("block", "k", SKIP), 1), ("exp", ("read", "x"), 1),
            ("com", ("exit", "k"), 1), ("exp", ("exit", "k"), 1), ("com", ("new", "x", ONE, SKIP), 1),
            ("exp", ("new", "x", ONE, ONE), 1), ("com", ("call", "p", ()), 1), ("com", OTHER_PROC, 1),
        ]
        for kind, term, at in places:
            for name in ("", "while", "fault", "abcde", "if", "com", "val", "X", "x1", "x ", "_", "1", 1, 0, (), ("x",)):
                self.assert_no_term(kind, with_item(term, at, name))
            self.assert_shaped_term(kind, with_item(term, at, "abcd"))

    def test_part_of_the_other_kind(self):
        for name, kind, part_kind, wrap in PLACES:
            other = "exp" if part_kind == "com" else "com"
            with self.subTest(name):
                self.assert_shaped(program(kind, wrap(PLAIN[part_kind])))
                self.assert_not_shaped(program(kind, wrap(PLAIN[other])))

    def test_no_tuple_or_an_empty_one_where_a_term_should_be(self):
        for name, kind, _, wrap in PLACES:
            for value in ((), "", "skip", "x", 0, 1, (SKIP,), (ONE,), ((),), (1,), (("skip", ()),)):
                with self.subTest(place=name, value=value):
                    self.assert_not_shaped(program(kind, wrap(value)))

    def test_row_that_is_grouped_from_the_right(self):
        self.assert_no_term("com", ("seq", SKIP, ("seq", SKIP, SKIP)))
        self.assert_no_term("com", ("seq", ("seq", SKIP, ("seq", SKIP, SKIP)), SKIP))
        self.assert_no_term("com", ("seq", ("seq", SKIP, SKIP), ("seq", SKIP, SKIP)))
        self.assert_shaped_term("com", ("seq", ("seq", SKIP, SKIP), SKIP))
        self.assert_shaped_term("com", ("seq", SKIP, ("block", "k", ("seq", SKIP, SKIP))))

    def test_arguments(self):
        exp, com = ("exp", ONE), ("com", SKIP)
        for args in ((), (exp,), (com,), (exp, com), (com, exp), (com, com), (exp, exp)):
            self.assert_shaped_term("com", ("call", "f", args))
            self.assert_shaped_term("exp", ("call", "f", args))
        wrong = [
            (exp, exp, exp), (exp, com, exp, com), ("exp", ONE), (("exp",),), (("exp", ONE, ONE),), (("val", ONE),),
            (("x", ONE),), (("both", STOP),), ((ONE, "exp"),), (ONE,), ("x",), (1,), ((),), ("ab",), (("exp", SKIP),),
            (("com", ONE),), (("exp", ()),), (("exp", "x"),), (("exp", 1),), (exp, ("com", ONE)), (exp, ()), "", "x", 0,
            ((1, ONE),), (((), ONE),),
        ]
        for args in wrong:
            self.assert_no_term("com", ("call", "f", args))
            self.assert_no_term("exp", ("call", "f", args))

    def test_parameters(self):
        good = [
            (), (("a", "com"),), (("a", "exp"),), (("a", "val"),), (("a", "com"), ("b", "com")), (("b", "val"), ("a", "exp")),
            (("f", "val"),), (("abcd", "exp"), ("hole", "com")),
        ]
        wrong = [
            (("a", "com"), ("a", "com")), (("a", "com"), ("a", "val")), (("a", "com"), ("b", "com"), ("c", "com")),
            ("a", "com"), ("ab",), (("a",),), (("a", "com", "com"),), (("a", "x"),), (("a", ""),), (("a", "both"),),
            (("a", 1),), (("a", ()),), (("com", "a"),), (("while", "com"),), (("A", "com"),), ((1, "com"),), (((), "com"),),
            ((),), (1,), "", "ab", 0, (("a", "com"), ()), (("a", "com"), "b"),
        ]
        for params in good:
            self.assert_shaped_term("com", ("proc", "f", params, "com", SKIP, SKIP))
        for params in wrong:
            self.assert_no_term("com", ("proc", "f", params, "com", SKIP, SKIP))
            self.assert_no_term("exp", ("proc", "f", params, "exp", ONE, ONE))

    def test_results_of_procedures(self):
        for result in ("val", "both", "", "x", "Com", 0, (), ("com",)):
            self.assert_no_term("com", ("proc", "f", (), result, STOP, SKIP))
        for result in ("com", "exp"):
            self.assert_shaped_term("com", ("proc", "f", (), result, STOP, SKIP))
            self.assert_shaped_term("exp", ("proc", "f", (), result, PLAIN[result], ONE))

    def test_body_and_block_are_of_their_own_kinds(self):
        self.assert_no_term("com", ("proc", "f", (), "exp", SKIP, SKIP))
        self.assert_no_term("com", ("proc", "f", (), "com", ONE, SKIP))
        self.assert_no_term("exp", ("proc", "f", (), "com", SKIP, SKIP))
        self.assert_no_term("exp", ("proc", "f", (), "exp", ONE, SKIP))

    def test_wrong_part_far_within(self):
        for name, kind, part_kind, wrap in PLACES:
            if kind == part_kind and name != "seq second":
                with self.subTest(name):
                    self.assert_shaped(program(kind, wrapped(wrap, 60, PLAIN[kind])))
                    self.assert_not_shaped(program(kind, wrapped(wrap, 60, ())))
                    self.assert_not_shaped(program(kind, wrapped(wrap, 60, PLAIN["exp" if kind == "com" else "com"])))

    def test_deep_tuples(self):
        deep = wrapped(lambda t: (t,), 190, ())
        for term in (deep, ("num", deep), ("set", deep, ONE), ("seq", SKIP, deep), ("call", "f", deep),
                     ("proc", "f", deep, "com", SKIP, SKIP), ("proc", "f", (), deep, SKIP, SKIP)):
            self.assert_not_shaped(program("com", term))
        self.assert_not_shaped((deep, "com", SKIP))
        self.assert_not_shaped(((("p", deep, "com"),), "com", SKIP))
        self.assert_shaped(program("exp", wrapped(lambda t: ("add", ONE, t), 190, ONE)))

    def test_long_rows(self):
        for count in (400, 5000):
            steps = [SKIP] * count
            self.assert_shaped(program("com", row_of(steps)))
            for at in (0, count // 2, count - 1):
                self.assert_not_shaped(program("com", row_of(steps[:at] + [ONE] + steps[at + 1:])))


class PieceShapeTest(ShapeTest):
    def test_kinds(self):
        for kind in ("com", "exp"):
            self.assert_shaped(program(kind, STOP))
        for kind in ("val", "both", "same", "", "x", "Com"):
            self.assert_not_shaped(program(kind, STOP))
            self.assert_not_shaped(program(kind, SKIP))
            self.assert_not_shaped(program(kind, ONE))

    def test_parts_of_the_piece(self):
        self.assert_not_shaped(())
        self.assert_not_shaped(((), "com"))
        self.assert_not_shaped(((), "com", SKIP, SKIP))
        self.assert_not_shaped(((), "com", "skip"))
        self.assert_not_shaped(("", "com", SKIP))
        self.assert_not_shaped(((), (), SKIP))

    def test_term_that_is_none(self):
        self.assert_not_shaped(program("com", ()))
        self.assert_not_shaped(program("exp", ()))
        self.assert_not_shaped(program("com", (SKIP,)))

    def test_declarations(self):
        for decls in [
            (), (("p", (), "com"),), (("p", (), "exp"),), (("a", ("com",), "com"), ("b", ("exp", "val"), "exp")),
            (("a", (), "com"), ("b", (), "com"), ("c", (), "com")), (("a", (), "com"), ("aa", (), "com"), ("ab", (), "com")),
            (("f", ("val", "val"), "exp"),), (("hole", (), "com"),),
        ]:
            with self.subTest(decls):
                self.assert_shaped((decls, "com", SKIP))

    def test_more_than_three_declarations(self):
        decls = tuple((name, (), "com") for name in "abcd")
        self.assert_shaped((decls[:3], "com", SKIP))
        self.assert_not_shaped((decls, "com", SKIP))

    def test_declarations_out_of_order_or_twice(self):
        a, b, c = ("a", (), "com"), ("b", ("val",), "exp"), ("c", (), "com")
        for decls in [(b, a), (a, c, b), (b, a, c), (c, b, a), (a, a), (a, b, b), (a, b, a), (a, ("a", ("val",), "exp")),
                      (("ab", (), "com"), a)]:
            with self.subTest(decls):
                self.assert_not_shaped((decls, "com", SKIP))

    def test_declaration_that_is_none(self):
        for decl in [
            (), ("p",), ("p", ()), ("p", (), "com", ()), ("p", "com", ()), "p", "abc", 1, ("p", (), "val"), ("p", (), "x"),
            ("p", (), ""), ("p", (), 1), ("p", (), ()), ("P", (), "com"), ("", (), "com"), ("while", (), "com"),
            ("com", (), "com"), (1, (), "com"), ((), (), "com"), ("p", "", "com"), ("p", "com", "com"), ("p", 0, "com"),
            ("p", ("x",), "com"), ("p", ("both",), "com"), ("p", ("com", ""), "com"), ("p", (1,), "com"), ("p", ((),), "com"),
            ("p", ("com", "com", "com"), "com"), ("p", (("a", "com"),), "com"),
        ]:
            with self.subTest(decl):
                self.assert_not_shaped(((decl,), "com", SKIP))
                self.assert_not_shaped(((("a", (), "com"), decl), "com", SKIP))
                self.assert_not_shaped(((decl, ("q", (), "com")), "com", SKIP))

    def test_shape_comes_before_names_and_size(self):
        unbound = ("set", "x", ONE)
        self.assert_not_shaped(program("com", row_of([unbound] * 500 + [ONE])))
        self.assert_not_shaped(((("p", (), "val"),), "com", unbound))


if __name__ == "__main__":
    unittest.main()
