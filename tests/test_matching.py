"""[6.3], [6.4]: nodes by their numbers, and terms that match the sides of rules."""

import copy
import random
import unittest

from doppelganger.errors import Missing, NotAllowed
from doppelganger.matching import count_nodes, fill_unknowns, match, replace_at, term_at
from doppelganger.names import used_names
from doppelganger.reader import read_piece
from doppelganger.terms import nodes
from generate import lively_pieces, pieces, playful_pieces
from helpers import PLACES, SKIP, error_of, outside, row_of
from reference import error_of_piece, parts, steps, with_parts

DECLS = "c : com, d : com, e : exp"


def side(text, decls=DECLS):
    return read_piece(f"{decls} |- {text}")


def term_of(text, around="p : com, q : com, r(com, exp) : exp"):
    """A term in which x and y may be used, and k may be left."""
    kind, rest = text.split(" : ", 1)
    if kind == "com":
        piece = read_piece(f"{around} |- com : new x = 0 {{ new y = 0 {{ block k {{ {rest} }} }} }}")
        return piece[2][3][3][2]
    piece = read_piece(f"{around} |- exp : new x = 0 [ new y = 0 [ do {{ block k {{ new z = {rest} {{ skip }} }} }} [ 0 ] ] ]")
    return piece[2][3][3][1][2][2]


def replaced(term, number, other, kind="com"):
    """A term with another one in the place of a node, by recursion; a pair with the number of the nodes."""
    if number == 0:
        return other, 1
    count, made = 1, []
    for part_kind, part, _ in parts(term, kind, {}):
        size = len(nodes(part, part_kind))
        made.append(replaced(part, number - count, other, part_kind)[0] if count <= number < count + size else part)
        count += size
    return with_parts(term, made), count


def naive_free(term, kind, bound=()):
    """The names that are free in a term."""
    found = set()
    if term[0] in ("read", "set", "exit", "call") and term[1] not in bound:
        found.add(term[1])
    for part_kind, part, scope in parts(term, kind, {}):
        found |= naive_free(part, part_kind, bound + tuple(scope))
    return found


def naive_uses(term, kind, names, bound=()):
    """The names that are bound around each use of an unknown, as pairs (unknown, names)."""
    if term[0] == "call" and term[1] in names and term[1] not in bound:
        return [(term[1], bound)]
    return [use for part_kind, part, scope in parts(term, kind, {})
            for use in naive_uses(part, part_kind, names, bound + tuple(scope))]


def naive_alike(pattern, term, names, found, bound=()):
    """Whether a term is a pattern with terms in the place of the unknowns, which are written down."""
    if pattern[0] == "call" and pattern[1] in names and pattern[1] not in bound:
        return found.setdefault(pattern[1], term) == term
    one, other = parts(pattern, "com", {}), parts(term, "com", {})
    if pattern[0] != term[0] or [kind for kind, _, _ in one] != [kind for kind, _, _ in other]:
        return False
    if pattern[0] == "call" and pattern[1] != term[1]:
        return False
    if pattern[0] not in ("call", "seq") and pattern[:len(pattern) - len(one)] != term[:len(term) - len(other)]:
        return False
    return all(naive_alike(a, b, names, found, bound + tuple(scope)) for (_, a, scope), (_, b, _) in zip(one, other))


def naive_match(left, right, term):
    """What `match` returns."""
    names = [name for name, _, _ in left[0]]
    found = {}
    if not naive_alike(left[2], term, names, found):
        return None
    uses = naive_uses(left[2], left[1], names) + naive_uses(right[2], right[1], names)
    for name, bound in uses:
        if name in found and naive_free(found[name], "com") & set(bound):
            return None
    return found


class NodesTest(unittest.TestCase):
    def test_numbers(self):
        made = pieces(150, 5) + lively_pieces(60, 6) + [outside(kind, wrap(SKIP if part == "com" else ("num", 1)))
                                                       for _, kind, part, wrap in PLACES]
        for piece in made:
            term = piece[2]
            found = [node for _, node, _ in nodes(term, piece[1])]
            self.assertEqual(count_nodes(term), len(found))
            self.assertEqual([term_at(term, number) for number in range(len(found))], found)
            for number in (-1, -2, len(found), len(found) + 1, 1000):
                self.assertIs(error_of(term_at, term, number), NotAllowed)
                self.assertIs(error_of(replace_at, term, number, SKIP), NotAllowed)

    def test_replacing(self):
        for piece in pieces(100, 5, seed=61) + lively_pieces(30, 5, 61) + playful_pieces(30, 5, 61):
            term = piece[2]
            before = copy.deepcopy(term)
            for number, (kind, node, _) in enumerate(nodes(term, piece[1])):
                self.assertEqual(replace_at(term, number, node), term)
                for other in (SKIP, ("stop",), row_of([SKIP, ("fault",), ("stop",)])) if kind == "com" else (("num", 2), ("fault",)):
                    with self.subTest(term=term, number=number):
                        self.assertEqual(replace_at(term, number, other), replaced(term, number, other)[0])
            self.assertEqual(term, before)

    def test_terms_of_any_kind(self):
        self.assertEqual(replace_at(("set", "x", ("num", 1)), 1, SKIP), ("set", "x", SKIP))
        self.assertEqual(replace_at(("num", 1), 0, SKIP), SKIP)
        self.assertEqual(replace_at(("block", "k", SKIP), 1, ("num", 2)), ("block", "k", ("num", 2)))

    def test_rows_in_rows(self):
        one, two, three, four = ("stop",), ("fault",), ("block", "k", SKIP), ("exit", "k")
        whole = row_of([one, two, three])
        new = row_of([four, SKIP])
        # The nodes are the row, the row of the first two steps, and one, two, three, skip.
        for number, steps_of_row in [(1, [four, SKIP, three]), (2, [four, SKIP, two, three]), (3, [one, four, SKIP, three]),
                                     (4, [one, two, four, SKIP])]:
            self.assertEqual(replace_at(whole, number, new), row_of(steps_of_row))
            self.assertEqual(steps(replace_at(whole, number, new)), steps_of_row)
        self.assertEqual(replace_at(whole, 5, new), row_of([one, two, ("block", "k", new)]))
        self.assertEqual(replace_at(whole, 0, new), new)

    def test_long_rows(self):
        whole = row_of([SKIP] * 200)
        self.assertEqual(count_nodes(whole), 399)
        self.assertEqual(replace_at(whole, 398, row_of([SKIP] * 3)), row_of([SKIP] * 202))
        self.assertEqual(term_at(whole, 199), SKIP)
        self.assertEqual(term_at(whole, 198), ("seq", SKIP, SKIP))


class MatchTest(unittest.TestCase):
    def assert_match(self, left, term, expected, right=None):
        left = side(left)
        right = left if right is None else side(right)
        found = None if expected is None else {name: term_of(text) for name, text in expected.items()}
        with self.subTest(left=left, term=term):
            self.assertEqual(match(left, right, term_of(term)), found)
            self.assertEqual(naive_match(left, right, term_of(term)), found)
            if found is not None:
                self.assertEqual(fill_unknowns(left, found), term_of(term))

    def test_terms_that_match(self):
        for left, term, expected in [
            ("com : c", "com : p", {"c": "com : p"}), ("com : c", "com : p; q", {"c": "com : p; q"}), ("exp : e", "exp : x + 1", {"e": "exp : x + 1"}),
            ("com : skip", "com : skip", {}), ("com : skip; c", "com : skip; p", {"c": "com : p"}),
            ("com : c; d", "com : p; q; skip", {"c": "com : p; q", "d": "com : skip"}), ("com : c; c", "com : p; p", {"c": "com : p"}),
            ("com : c; d; c", "com : x := 1; p; x := 1", {"c": "com : x := 1", "d": "com : p"}), ("com : c; d", "com : p; p", {"c": "com : p", "d": "com : p"}),
            ("com : if e { c } { d }", "com : if x == y { exit k } { p; q }", {"e": "exp : x == y", "c": "com : exit k", "d": "com : p; q"}),
            ("com : while e { c }", "com : while r({ skip }, 1) { p }", {"e": "exp : r({ skip }, 1)", "c": "com : p"}),
            ("exp : do { c } [ e ]", "exp : do { p } [ 1 ]", {"c": "com : p", "e": "exp : 1"}), ("exp : e * 2", "exp : (x + y) * 2", {"e": "exp : x + y"}),
            ("com : new a = e { c }", "com : new a = x { new b = 1 { p; b := y } }", {"e": "exp : x", "c": "com : new b = 1 { p; b := y }"}),
            ("com : block j { c; exit j }", "com : block j { exit k; exit j }", {"c": "com : exit k"}),
            ("com : block j { c }", "com : block j { block j { exit j } }", {"c": "com : block j { exit j }"}),
            ("com : new a = 1 { c }", "com : new a = 1 { new a = 0 { a := 2 } }", {"c": "com : new a = 0 { a := 2 }"}),
            ("com : new a = e { skip }", "com : new a = new a = 1 [ a ] { skip }", {"e": "exp : new a = 1 [ a ]"}),
            ("com : proc f(a : com) : com { a; c } { f({ d }) }", "com : proc f(a : com) : com { a; p } { f({ q }) }", {"c": "com : p", "d": "com : q"}),
            ("com : stop; c", "com : stop; fault", {"c": "com : fault"}),
        ]:
            self.assert_match(left, term, expected)

    def test_terms_that_do_not_match(self):
        for left, term in [
            ("com : skip", "com : p"), ("com : skip; c", "com : p; skip"), ("com : skip; c", "com : skip; p; q"), ("com : c; skip", "com : skip"),
            ("com : c; c", "com : p; q"), ("com : c; d; c", "com : p; q; q"), ("com : c; d; c", "com : p; p"), ("com : if e { c } { c }", "com : if 1 { p } { q }"),
            ("exp : e + 0", "exp : x + 1"), ("exp : e + 0", "exp : x - 0"), ("exp : e + e", "exp : x + y"), ("exp : e * 2", "exp : x + y * 2"),
            ("com : while e { c }", "com : if 1 { p } { p }"), ("com : new a = e { c }", "com : new b = x { p }"), ("com : block j { c }", "com : block i { p }"),
            ("com : block j { exit j }", "com : block j { exit k }"), ("com : new a = 0 { a := e }", "com : new a = 0 { x := 1 }"),
            ("exp : new a = 0 [ a ]", "exp : new a = 0 [ y ]"), ("exp : new a = 0 [ a + e ]", "exp : new a = 0 [ x + a ]"),
            ("com : proc f() : com { c } { f }", "com : proc g() : com { p } { g }"), ("com : proc f() : com { c } { f }", "com : proc f() : com { p } { f; f }"),
            ("com : proc f(a : com) : com { c } { f({ d }) }", "com : proc f(b : com) : com { p } { f({ q }) }"),
            ("com : proc f(a : exp) : com { c } { skip }", "com : proc f(a : val) : com { p } { skip }"),
            ("com : proc f(a : exp) : com { c } { skip }", "com : proc f(a : exp) : exp [ 1 ] { skip }"),
            ("com : proc f(a : exp) : com { c } { skip }", "com : proc f(a : exp, b : exp) : com { p } { skip }"),
            ("com : proc f(a : exp) : com { c } { f(1) }", "com : proc f(a : exp) : com { p } { f(2) }"), ("exp : 1", "exp : 2"), ("com : stop", "com : fault"),
        ]:
            self.assert_match(left, term, None)

    def test_free_names(self):
        for left, term, expected in [
            ("com : new x = 0 { c }", "com : new x = 0 { x := 1 }", None), ("com : new x = 0 { c }", "com : new x = 0 { y := x }", None),
            ("com : new x = 0 { c }", "com : new x = 0 { y := 1 }", {"c": "com : y := 1"}), ("com : new x = 0 { c }", "com : new x = 0 { new x = x { p } }", None),
            ("com : new x = e { skip }", "com : new x = x { skip }", {"e": "exp : x"}), ("com : new p = 0 { c }", "com : new p = 0 { p := 2 }", None),
            ("com : block k { c }", "com : block k { exit k }", None), ("com : block k { c }", "com : block k { block j { exit k } }", None),
            ("com : block x { c }", "com : block x { exit x }", None), ("com : block p { c }", "com : block p { q }", {"c": "com : q"}),
            ("com : proc p() : com { skip } { c }", "com : proc p() : com { skip } { p }", None),
            ("com : proc p() : com { c } { skip }", "com : proc p() : com { p } { skip }", {"c": "com : p"}),
            ("com : proc f(p : com) : com { c } { skip }", "com : proc f(p : com) : com { p } { skip }", None),
            ("com : proc f(x : val) : com { c } { skip }", "com : proc f(x : val) : com { y := x } { skip }", None),
            ("com : proc f(x : val) : com { skip } { c }", "com : proc f(x : val) : com { skip } { y := x }", {"c": "com : y := x"}),
            ("com : proc f(x : val) : com { skip } { c }", "com : proc f(x : val) : com { skip } { f(1) }", None),
            ("exp : new x = 1 [ e ]", "exp : new x = 1 [ r({ x := 0 }, 1) ]", None), ("exp : new x = 1 [ e ]", "exp : new x = 1 [ r({ skip }, 1) ]", {"e": "exp : r({ skip }, 1)"}),
            # At one of several uses is enough.
            ("com : c; new x = 0 { c }", "com : x := 1; new x = 0 { x := 1 }", None), ("com : c; new x = 0 { d }", "com : x := 1; new x = 0 { p }", {"c": "com : x := 1", "d": "com : p"}),
            # What is bound elsewhere does not matter.
            ("com : new x = 0 { skip }; c", "com : new x = 0 { skip }; x := 1", {"c": "com : x := 1"}),
        ]:
            self.assert_match(left, term, expected)

    def test_names_that_the_other_side_binds(self):
        for right, expected in [("com : new x = 0 { c }", None), ("com : new y = 0 { c }", {"c": "com : x := 1"}), ("com : block x { c }", None),
                                ("com : new x = 0 { skip }; c", {"c": "com : x := 1"}), ("com : c; new x = 2 { c }", None),
                                ("com : proc x() : com { skip } { c }", None), ("com : proc x() : com { c } { x }", {"c": "com : x := 1"}),
                                ("com : proc f(x : val) : com { c } { f(1) }", None), ("com : skip", {"c": "com : x := 1"}),
                                ("com : new x = 0 { d }", {"c": "com : x := 1"}), ("com : new x = 0 { proc c() : com { skip } { c } }", {"c": "com : x := 1"})]:
            self.assert_match("com : c", "com : x := 1", expected, right)
        self.assert_match("com : c; d", "com : x := 1; p", {"c": "com : x := 1", "d": "com : p"}, "com : c; new x = 0 { d }")
        self.assert_match("com : c; d", "com : p; x := 1", None, "com : c; new x = 0 { d }")

    def test_names_of_unknowns_that_are_hidden(self):
        for left, term, expected in [
            ("com : proc c() : com { skip } { c; d }", "com : proc c() : com { skip } { c; p }", {"d": "com : p"}),
            ("com : proc c() : com { skip } { c; d }", "com : proc c() : com { skip } { q; p }", None),
            ("com : proc c() : com { c } { c }", "com : proc c() : com { p } { c }", {"c": "com : p"}),
            ("com : proc f(c : com) : com { c; d } { f({ c }) }", "com : proc f(c : com) : com { c; p } { f({ q }) }", {"d": "com : p", "c": "com : q"}),
            ("com : new c = 0 { d; c := 1 }", "com : new c = 0 { p; c := 1 }", {"d": "com : p"}),
        ]:
            self.assert_match(left, term, expected)

    def test_the_kind_of_the_term_is_not_looked_at(self):
        for text, other, term in [("com : c", "com : c", ("num", 1)), ("exp : e", "exp : 1 * e", SKIP), ("com : if 1 { c } { c }", "com : c", ("if", ("num", 1), ("num", 2), ("num", 2)))]:
            found = match(side(text), side(other), term)
            self.assertEqual(list(found.values()), [term if term[0] != "if" else ("num", 2)])
        self.assertEqual(match(side("com : stop"), side("com : stop"), ("stop",)), {})

    def test_other_unknowns_on_the_other_side(self):
        self.assert_match("com : if 1 { c } { d }", "com : if 1 { p } { q }", {"c": "com : p", "d": "com : q"}, "com : c")
        self.assert_match("com : c", "com : p", {"c": "com : p"}, "com : if 1 { c } { d }")

    def test_many_sides(self):
        """Terms that are made of sides match them; others are told like by `naive_match`."""
        chance = random.Random("sides")
        fillings = {"com": ["skip", "p", "p; skip", "x := 1", "exit k", "stop", "new x = 1 { x := y }", "c; x := 2; p", "c"],
                    "exp": ["1", "x", "x + y", "r({ p }, 2)", "stop", "new x = 1 [ x ]"]}
        found = [0, 0]
        for at in range(400):
            left, right = self.random_side(chance), self.random_side(chance)
            filled = {name: term_of(f"{kind} : " + chance.choice(fillings[kind]), "c : com, p : com, r(com, exp) : exp")
                      for name, _, kind in left[0]}
            term = fill_unknowns(left, filled)
            for other in (term, self.disturbed(term, chance)):
                before = copy.deepcopy((left, right, other, filled))
                expected = naive_match(left, right, other)
                with self.subTest(left=left, right=right, term=other):
                    self.assertEqual(match(left, right, other), expected)
                self.assertEqual((left, right, other, filled), before)
                found[expected is None] += 1
                if expected is not None:
                    self.assertEqual(sorted(expected), used_names(left))
                    self.assertEqual(fill_unknowns(left, expected), other)
        self.assertGreater(min(found), 150)

    def random_side(self, chance):
        texts = ["c", "c; d", "d; c", "new x = e { c }", "block k { c }", "if e { c } { d }", "proc p() : com { c } { d; p }",
                 "proc f(x : val) : com { d } { f(e); c }", "while e { c }", "new y = e + e { c; d }", "skip; c", "proc c() : com { d } { c }",
                 "proc f(c : com) : com { c; d } { f({ c }) }", "block x { c }; d", "new x = e { skip }; c"]
        return side("com : " + chance.choice(texts).replace("d", chance.choice(["d", "d", "c"])))

    def disturbed(self, term, chance):
        found = nodes(term, "com")
        number = chance.randrange(len(found))
        other = chance.choice([SKIP, ("call", "p", ()), ("stop",)]) if found[number][0] == "com" else chance.choice([("num", 1), ("stop",)])
        return replace_at(term, number, other)


class FillTest(unittest.TestCase):
    def test_missing(self):
        left = side("com : if e { c } { skip; d }")
        full = {"c": SKIP, "d": SKIP, "e": ("num", 1)}
        self.assertEqual(fill_unknowns(left, full), ("if", ("num", 1), SKIP, ("seq", SKIP, SKIP)))
        for name in full:
            self.assertIs(error_of(fill_unknowns, left, {each: full[each] for each in full if each != name}), Missing)
        self.assertIs(error_of(fill_unknowns, left, {}), Missing)
        self.assertEqual(fill_unknowns(left, {**full, "x": SKIP}), fill_unknowns(left, full))

    def test_what_is_not_used_need_not_be_there(self):
        self.assertEqual(fill_unknowns(side("com : skip"), {}), SKIP)
        self.assertEqual(fill_unknowns(side("com : c"), {"c": ("stop",)}), ("stop",))
        hidden = side("com : proc c() : com { skip } { c }")
        self.assertEqual(fill_unknowns(hidden, {}), hidden[2])
        self.assertEqual(fill_unknowns(hidden, {"c": ("stop",)}), hidden[2])

    def test_rows(self):
        new = row_of([SKIP, ("stop",)])
        self.assertEqual(fill_unknowns(side("com : c; d"), {"c": new, "d": new}), row_of([SKIP, ("stop",), SKIP, ("stop",)]))
        self.assertEqual(fill_unknowns(side("com : d; c; d"), {"c": new, "d": SKIP}), row_of([SKIP, SKIP, ("stop",), SKIP]))

    def test_arguments_stay(self):
        left, found = side("com : c; d; c"), {"c": row_of([SKIP, SKIP]), "d": ("stop",)}
        before = copy.deepcopy((left, found))
        self.assertEqual(fill_unknowns(left, found), fill_unknowns(left, found))
        self.assertEqual((left, found), before)
        term = fill_unknowns(left, {"c": SKIP, "d": ("stop",)})
        matched = match(left, left, term)
        matched["c"] = ("fault",)
        matched.clear()
        self.assertEqual(match(left, left, term), {"c": SKIP, "d": ("stop",)})

    def test_sides_are_sound(self):
        for text in ["com : c; d", "exp : do { c } [ e ]"]:
            self.assertIsNone(error_of_piece(side(text)))


if __name__ == "__main__":
    unittest.main()
