"""[6.1], [6.2], [6.5] to [6.7]: books of rules."""

import copy
import random
import unittest

from doppelganger.book import MAX_RULES, Book
from doppelganger.errors import Apart, BadKind, BadName, DoppelError, Missing, NotAllowed, TooLarge
from doppelganger.matching import count_nodes, fill_unknowns, match, replace_at
from doppelganger.names import check_piece, used_names
from doppelganger.reader import read_piece
from doppelganger.same import same
from doppelganger.terms import nodes
from doppelganger.writer import piece_text
from generate import Playful
from helpers import ONE, SKIP, error_of, row_of, row_with_nodes, wrapped
from reference import error_of_piece, error_of_size
from test_situations import long_run, many_situations

DECLS = "e : exp, p : com, q : com"
RULES = [
    ("com : skip; p", "com : p"), ("com : p; skip", "com : p"), ("com : new a = 0 { p }", "com : p"), ("com : block k { p }", "com : p"),
    ("com : if 0 { p } { q }", "com : q"), ("com : if 1 { p } { q }", "com : p"), ("exp : e + 0", "exp : e"), ("exp : 0 + e", "exp : e"),
    ("exp : e * 1", "exp : e"), ("com : while 0 { p }", "com : skip"), ("exp : new a = e [ a ]", "exp : e"), ("com : while 1 { skip }", "com : stop"),
]


def piece_of(text, decls=DECLS):
    return read_piece(f"{decls} |- {text}")


def book_of(*rules):
    book = Book()
    for left, right in rules:
        book.add(piece_of(left), piece_of(right))
    return book


class AddTest(unittest.TestCase):
    def test_rules_are_there_in_order(self):
        book = Book()
        self.assertEqual(book.size(), 0)
        self.assertIs(error_of(book.rule, 0), Missing)
        for number, (left, right) in enumerate(RULES):
            self.assertIsNone(book.add(piece_of(left), piece_of(right)))
            self.assertEqual(book.size(), number + 1)
            self.assertEqual(book.rule(number), (piece_of(left), piece_of(right)))
            self.assertIs(book.rule(number).__class__, tuple)
            for index in (-1, number + 1, number + 2, 100):
                self.assertIs(error_of(book.rule, index), Missing)
        for number, (left, right) in enumerate(RULES):
            self.assertEqual(book.rule(number), (piece_of(left), piece_of(right)))

    def test_books_are_their_own(self):
        first, second = book_of(RULES[0]), Book()
        self.assertEqual((first.size(), second.size()), (1, 0))
        second.add(piece_of("com : stop"), piece_of("com : stop"))
        second.add(piece_of("com : stop"), piece_of("com : stop"))
        self.assertEqual((first.size(), second.size()), (1, 2))

    def test_examples(self):
        book = Book()
        book.add(read_piece("p : com, q : com |- com : skip; p"), read_piece("p : com, q : com |- com : p"))
        self.assertIs(error_of(book.add, read_piece("p : com, q : com |- com : p; q"), read_piece("p : com, q : com |- com : q; p")), Apart)
        self.assertEqual(book.size(), 1)

    def assert_refused(self, error, left, right, book=None):
        book = book_of(RULES[0]) if book is None else book
        before = [book.rule(index) for index in range(book.size())]
        with self.subTest(left=left, right=right):
            self.assertIs(error_of(book.add, read_piece(left), read_piece(right)), error)
            self.assertEqual([book.rule(index) for index in range(book.size())], before)

    def test_pieces_that_cannot_be_sides(self):
        full = book_of(*RULES)
        long = f"{DECLS} |- com : " + piece_text(((), "com", long_run(2001))).split(" : ", 1)[1]
        for book in (None, full):
            for error, left, right in [
                (BadKind, "p : com |- com : p", "|- com : stop"), (BadKind, "p : com |- com : stop", "p : com |- exp : stop"),
                (BadKind, "p : com |- com : skip", "p : exp |- com : skip"), (BadKind, "p(com) : com |- com : p({ skip })", "p(com) : com |- com : p({ skip })"),
                (BadKind, "p(val) : com |- com : stop", "p(val) : com |- com : stop"), (BadKind, "a : com, p(exp, exp) : exp |- com : skip", "a : com, p(exp, exp) : exp |- com : a"),
                (BadKind, "p : com |- com : skip", "q : com |- com : q"), (BadKind, "p(com) : com |- com : stop", "p(com) : com |- com : p({ skip })"),
                (BadName, f"{DECLS} |- com : skip", f"{DECLS} |- com : p"), (BadName, f"{DECLS} |- com : p; q", f"{DECLS} |- com : new x = e {{ p; q }}"),
                (BadName, f"{DECLS} |- com : proc p() : com {{ skip }} {{ p }}", f"{DECLS} |- com : p"), (BadName, f"{DECLS} |- com : stop", f"{DECLS} |- com : stop; p"),
            ]:
                self.assert_refused(error, left, right, book)
            self.assert_refused(BadName, long, f"{DECLS} |- com : p", book)
        for left, right in [(long, long), (f"{DECLS} |- com : p; q", f"{DECLS} |- com : q; p"), RULES_AS_TEXTS[0]]:
            self.assert_refused(TooLarge, left, right, full)
        self.assert_refused(TooLarge, long, long)
        self.assert_refused(TooLarge, f"{DECLS} |- com : p", long)
        many = many_situations(7)
        self.assert_refused(TooLarge, many, many)
        for left, right in [("p; q", "q; p"), ("p; p", "p"), ("p", "skip"), ("stop", "skip"), ("stop", "fault"), ("while e { p }", "if e { p } { skip }"),
                            ("new x = e { p }", "p"), ("p; fault", "fault"), ("if e { p } { q }", "if e { q } { p }")]:
            self.assert_refused(Apart, f"{DECLS} |- com : {left}", f"{DECLS} |- com : {right}")

    def test_12_and_13_rules(self):
        self.assertEqual(MAX_RULES, 12)
        book = book_of(*RULES)
        self.assertEqual(book.size(), 12)
        self.assertIs(error_of(book.add, piece_of("com : p"), piece_of("com : p")), TooLarge)
        self.assertIs(error_of(book.add, piece_of("com : p"), piece_of("com : stop")), TooLarge)
        self.assertEqual(book.size(), 12)
        self.assertEqual(book.rule(11), (piece_of(RULES[11][0]), piece_of(RULES[11][1])))

    def test_names_that_are_hidden_on_the_right(self):
        book = Book()
        book.add(piece_of("com : skip"), piece_of("com : proc p() : com { skip } { p }"))
        book.add(piece_of("com : p; q"), piece_of("com : block k { p }; q"))
        self.assertEqual(book.size(), 2)


RULES_AS_TEXTS = [(f"{DECLS} |- {left}", f"{DECLS} |- {right}") for left, right in RULES]


class ApplyTest(unittest.TestCase):
    def assert_applied(self, book, index, back, text, number, expected):
        piece = piece_of(text, "e : exp, f(com) : com, p : com")
        before = copy.deepcopy(piece)
        with self.subTest(text=text, index=index, back=back, number=number):
            if isinstance(expected, str):
                found = book.apply_rule(index, back, piece, number)
                self.assertEqual(found, piece_of(expected, "e : exp, f(com) : com, p : com"))
                self.assertIsNone(check_piece(found))
                self.assertIs(same(piece, found), True)
            else:
                self.assertIs(error_of(book.apply_rule, index, back, piece, number), expected)
            self.assertEqual(piece, before)

    def test_from_left_to_right(self):
        book = book_of(*RULES)
        for index, text, number, expected in [
            (0, "com : skip; fault", 0, "com : fault"), (0, "com : skip; p; skip", 1, "com : p; skip"), (0, "com : f({ skip; p })", 1, "com : f({ p })"),
            (0, "com : skip; skip; fault", 0, Apart), (0, "com : skip; skip; fault", 1, "com : skip; fault"), (0, "com : skip; skip; fault", 2, Apart),
            (1, "com : skip; skip; fault; skip", 0, "com : skip; skip; fault"), (2, "com : new a = 0 { a := 1 }", 0, Apart), (2, "com : new a = 0 { p }", 0, "com : p"),
            (2, "com : new b = 0 { p }", 0, Apart), (2, "com : new a = 1 { p }", 0, Apart), (2, "com : new a = 0 { new a = 2 { a := a } }", 0, "com : new a = 2 { a := a }"),
            (3, "com : block k { exit k }", 0, Apart), (3, "com : block k { block k { exit k } }", 0, "com : block k { exit k }"),
            (3, "com : block k { block k { exit k } }", 1, Apart), (4, "com : if 0 { p; p } { f({ p }) }", 0, "com : f({ p })"), (5, "com : if 1 { p; p } { stop }; p", 1, "com : p; p; p"),
            (6, "exp : e * (1 + 0)", 2, "exp : e * 1"), (6, "exp : e * (1 + 0)", 0, Apart), (6, "exp : 0 + 0 + 0", 0, "exp : 0 + 0"), (6, "exp : 0 + 0 + 0", 1, "exp : 0 + 0"),
            (10, "exp : new a = e + e [ a ]", 0, "exp : e + e"), (10, "exp : new a = new a = e [ a ] [ a ]", 0, "exp : new a = e [ a ]"), (9, "com : while 0 { stop }", 0, "com : skip"),
            (11, "com : while 1 { skip }; p", 1, "com : stop; p"),
        ]:
            self.assert_applied(book, index, False, text, number, expected)

    def test_back(self):
        book = book_of(*RULES)
        for index, text, number, expected in [
            (0, "com : fault", 0, "com : skip; fault"), (0, "com : p; p", 2, "com : p; skip; p"), (0, "com : p; fault", 1, "com : skip; p; fault"),
            (0, "com : p; fault", 0, "com : skip; p; fault"), (2, "com : p", 0, "com : new a = 0 { p }"), (2, "com : new a = 1 { a := 2 }", 1, Apart),
            (2, "com : new a = 1 { a := 2 }", 2, Apart), (2, "com : new a = 1 { p; a := 2 }", 3, "com : new a = 1 { new a = 0 { p }; a := 2 }"),
            (2, "com : new b = 1 { b := 2 }", 2, "com : new b = 1 { new a = 0 { b := 2 } }"), (3, "com : block k { exit k }", 1, Apart), (3, "com : block j { exit j }", 1, "com : block j { block k { exit j } }"),
            (4, "com : p", 0, Apart), (9, "com : skip", 0, Apart), (11, "com : stop; p", 1, "com : while 1 { skip }; p"), (11, "com : fault", 0, Apart),
            (10, "exp : new b = 1 [ b ]", 1, "exp : new b = new a = 1 [ a ] [ b ]"), (6, "exp : e", 0, "exp : e + 0"), (6, "com : new x = e { p }", 1, "com : new x = e + 0 { p }"),
            (11, "exp : stop", 0, Apart), (0, "exp : stop", 0, Apart),
        ]:
            self.assert_applied(book, index, True, text, number, expected)

    def test_names_that_are_free_where_only_the_other_side_binds_them(self):
        book = book_of(("com : p; q", "com : new a = 0 { p }; q"), ("exp : e + 1", "exp : proc f(b : exp) : exp [ b + 1 ] [ f(e) ]"))
        self.assert_applied(book, 0, False, "com : new a = 1 { a := 2; p }", 2, Apart)
        self.assert_applied(book, 0, False, "com : new a = 1 { p; a := 2 }", 2, "com : new a = 1 { new a = 0 { p }; a := 2 }")
        self.assert_applied(book, 1, False, "exp : new b = 1 [ b + 1 ]", 2, "exp : new b = 1 [ proc f(b : exp) : exp [ b + 1 ] [ f(b) ] ]")

    def test_errors_in_their_order(self):
        book = book_of(RULES[0], RULES[4], RULES[6])
        piece = piece_of("com : skip; p")
        for index, number, error in [(3, 0, Missing), (-1, 0, Missing), (3, 9, Missing), (-1, -1, Missing), (0, 3, NotAllowed), (0, -1, NotAllowed),
                                     (1, 99, NotAllowed), (0, 1, Apart), (0, 2, Apart), (2, 0, Apart), (1, 0, Apart)]:
            for back in (False, True):
                if error is not Apart or not back:
                    self.assertIs(error_of(book.apply_rule, index, back, piece, number), error)
        self.assertIs(error_of(book.apply_rule, 2, True, piece, 0), Apart)
        self.assertIs(error_of(book.apply_rule, 1, True, piece, 0), Apart)
        self.assertIs(error_of(Book().apply_rule, 0, False, piece, 0), Missing)

    def test_nodes_of_the_other_type(self):
        book = book_of(("com : stop", "com : while 1 { skip }"), ("exp : stop", "exp : do { stop } [ 1 ]"))
        piece = read_piece("|- com : if stop { stop } { skip }")
        self.assertIs(error_of(book.apply_rule, 0, False, piece, 1), Apart)
        self.assertIs(error_of(book.apply_rule, 1, False, piece, 2), Apart)
        self.assertEqual(piece_text(book.apply_rule(0, False, piece, 2)), "|- com : if stop { while 1 { skip } } { skip }")
        self.assertEqual(piece_text(book.apply_rule(1, False, piece, 1)), "|- com : if do { stop } [ 1 ] { stop } { skip }")

    def test_400_and_401_nodes(self):
        book = book_of(("com : p", "com : block k { p }"), ("com : p; q", "com : skip; p; skip; q"))
        for count, error in [(398, None), (399, None), (400, TooLarge)]:
            piece = ((), "com", ("new", "x", ONE, row_with_nodes(count - 2)))
            self.assertEqual(count_nodes(piece[2]), count)
            self.assertIs(error_of(book.apply_rule, 0, False, piece, 0), error)
            self.assertIs(error_of(book.apply_rule, 0, False, piece, count - 1), error if count == 400 else None)
        piece = ((), "com", row_with_nodes(397))
        self.assertIs(error_of(book.apply_rule, 1, False, piece, 0), TooLarge)
        piece = ((), "com", row_with_nodes(395))
        self.assertEqual(count_nodes(book.apply_rule(1, False, piece, 0)[2]), 399)

    def test_levels_30_and_31(self):
        book = book_of(("com : p", "com : block j { p }"))
        for count in (28, 29, 30):
            piece = ((), "com", wrapped(lambda term: ("block", "k", term), count - 1, SKIP))
            for number in range(count):
                self.assertIs(error_of(book.apply_rule, 0, False, piece, number), TooLarge if count == 30 else None)
        # A piece with a row keeps its levels where a row comes into the row.
        rows = ((), "com", wrapped(lambda term: ("block", "k", term), 28, row_of([SKIP, ("stop",)])))
        self.assertIs(error_of(check_piece, rows), None)
        self.assertIs(error_of(book_of(("com : p", "com : skip; p")).apply_rule, 0, False, rows, 29), None)
        self.assertIs(error_of(book.apply_rule, 0, False, rows, 29), TooLarge)


class SimplifyTest(unittest.TestCase):
    def assert_simplified(self, rules, text, expected, indexes, decls=DECLS):
        piece = piece_of(text, decls)
        before = copy.deepcopy(piece)
        book = book_of(*rules)
        with self.subTest(text):
            found = book.simplify(piece)
            self.assertIs(found.__class__, tuple)
            self.assertEqual(found, (piece_of(expected, decls), indexes))
            self.assertEqual(piece, before)
            found[1].append(7)
            self.assertEqual(book.simplify(piece), (piece_of(expected, decls), indexes))

    def test_examples(self):
        self.assert_simplified(RULES[:1], "com : skip; skip; fault", "com : fault", [0, 0], "")
        self.assert_simplified([], "com : skip; skip; fault", "com : skip; skip; fault", [])
        self.assert_simplified(RULES[:1], "com : fault", "com : fault", [])

    def test_which_node_and_rule_come_first(self):
        self.assert_simplified([("exp : e + 0", "exp : e"), ("exp : 0 + e", "exp : e")], "exp : 0 + 0", "exp : 0", [0])
        self.assert_simplified([("exp : 0 + e", "exp : e"), ("exp : e + 0", "exp : e")], "exp : 0 + 0", "exp : 0", [0])
        # The outer node comes first, though its rule is a later one.
        self.assert_simplified([("exp : e + 0", "exp : e"), ("exp : e * 1", "exp : e")], "exp : (e + 0) * 1", "exp : e", [1, 0])
        self.assert_simplified([("exp : e * 1", "exp : e"), ("exp : e + 0", "exp : e")], "exp : (e + 0) * 1", "exp : e", [0, 1])
        self.assert_simplified([("com : if 0 { p } { q }", "com : q"), ("com : skip; p", "com : p")],
                               "com : skip; if 0 { skip; p } { skip; q }", "com : q", [1, 0, 1])
        self.assert_simplified([("com : skip; p", "com : p"), ("com : p; skip", "com : p")], "com : skip; skip", "com : skip", [0])
        self.assert_simplified([("com : p; skip", "com : p"), ("com : skip; p", "com : p")], "com : skip; p; skip; q; skip", "com : p; q", [0, 0, 1])
        # Behind each application all nodes are gone through from the first one.
        self.assert_simplified([("com : block k { p }", "com : p"), ("com : if 1 { p } { q }", "com : p")],
                               "com : block k { if 1 { block k { exit k } } { exit k } }", "com : block k { exit k }", [1, 0])

    def test_rules_that_remove_no_nodes(self):
        self.assert_simplified([("com : if e { p } { q }", "com : if e == 0 { q } { p }"), ("com : p; q", "com : p; q"), ("com : p", "com : block k { p }")],
                               "com : if e { p } { q }; skip", "com : if e { p } { q }; skip", [])
        self.assert_simplified([("exp : e * 2", "exp : 2 * e"), ("exp : 2 * e", "exp : e * 2")], "exp : e * 2", "exp : e * 2", [])
        # Whether nodes are removed depends on what stands for the unknowns.
        rules = [("com : if e { p } { p }", "com : new x = e { skip; p; skip }")]
        self.assert_simplified(rules, "com : if e { q } { q }", "com : if e { q } { q }", [])
        self.assert_simplified(rules, "com : if e { q; p } { q; p }", "com : if e { q; p } { q; p }", [])
        self.assert_simplified(rules, "com : if e { p; p; p } { p; p; p }", "com : new x = e { skip; p; p; p; skip }", [0])
        self.assert_simplified(rules, "com : if e { q; p; q } { q; p; p }", "com : if e { q; p; q } { q; p; p }", [])

    def test_free_names(self):
        rules = [("com : new a = 0 { p }", "com : p"), ("com : skip; p", "com : p")]
        self.assert_simplified(rules, "com : new a = 0 { skip; a := 1 }", "com : new a = 0 { a := 1 }", [1])
        self.assert_simplified(rules, "com : new a = 0 { skip; new a = 0 { p } }", "com : p", [0, 1, 0])

    def test_results_that_are_too_deep(self):
        """A rule that removes nodes may need more levels: then another node or rule is taken."""
        left = "com : p; skip; skip; skip; skip; skip; skip"
        rules = [(left, "com : block k { block k { block k { p } } }"), ("com : p; skip", "com : p")]
        deep = piece_of("com : " + "block x { " * 26 + "q; skip; skip; skip; skip; skip; skip" + " }" * 26)
        book = book_of(rules[0])
        self.assertEqual(max(level for _, _, level in nodes(deep[2], "com")), 28)
        self.assertEqual(book.simplify(deep)[1], [0])
        deeper = (deep[0], "com", ("block", "x", deep[2]))
        self.assertEqual(book.simplify(deeper)[1], [0] if error_of(book.apply_rule, 0, False, deeper, 27) is None else [])
        deepest = (deep[0], "com", ("block", "x", ("block", "x", deep[2])))
        self.assertIs(error_of(book.apply_rule, 0, False, deepest, 28), TooLarge)
        self.assertEqual(book.simplify(deepest), (deepest, []))
        self.assertEqual(book_of(*rules).simplify(deepest)[1], [1] * 6)

    def test_long_rows(self):
        piece = ((), "com", row_of([SKIP] * 200))
        self.assertEqual(book_of(RULES[0]).simplify(piece), (((), "com", SKIP), [0] * 199))
        self.assertEqual(book_of(*RULES[1::-1]).simplify(piece), (((), "com", SKIP), [0] * 199))

    def naive(self, rules, piece):
        """[6.6], written down once more with `match` and `fill_unknowns`."""
        indexes = []
        while True:
            step = self.naive_step(rules, piece)
            if step is None:
                return piece, indexes
            indexes.append(step[0])
            piece = step[1]

    def naive_step(self, rules, piece):
        decls, kind, term = piece
        for number, (node_kind, node, _) in enumerate(nodes(term, kind)):
            for index, (left, right) in enumerate(rules):
                found = match(left, right, node) if node_kind == left[1] else None
                if found is not None:
                    made = replace_at(term, number, fill_unknowns(right, found))
                    if count_nodes(made) < count_nodes(term) and not error_of_size(made, kind):
                        return index, (decls, kind, made)
        return None

    def test_many_pieces(self):
        """[6.6] and [6.7]."""
        chance = random.Random("simplify")
        count = 0
        for at in range(150):
            rules = chance.sample(RULES, chance.randrange(1, 6))
            book = book_of(*rules)
            piece = Simplifiable(f"simplify {at}", True).piece(5)
            if error_of_piece(piece):
                continue
            found, indexes = book.simplify(piece)
            self.assertEqual((found, indexes), self.naive([(piece_of(one), piece_of(other)) for one, other in rules], piece))
            self.assertIsNone(check_piece(found))
            self.assertEqual(found[:2], piece[:2])
            count += len(indexes)
            try:
                self.assertIs(same(piece, found), True)
            except (TooLarge, NotAllowed):
                pass
            for number in range(count_nodes(piece[2])):
                self.assert_the_same_piece(book, piece, number)
        self.assertGreater(count, 100)

    def assert_the_same_piece(self, book, piece, number):
        for index in range(book.size()):
            for back in (False, True):
                try:
                    found = book.apply_rule(index, back, piece, number)
                    self.assertIsNone(check_piece(found))
                    if number < 6:
                        self.assertIs(same(piece, found), True)
                except DoppelError:
                    pass

    def test_used_names_of_sides(self):
        for left, right in RULES:
            self.assertLessEqual(set(used_names(piece_of(right))), set(used_names(piece_of(left))))


class Simplifiable(Playful):
    """Makes pieces to which rules can be applied."""

    def form(self, kind, size, scope):
        rest = self.term(kind, size - 1, scope)
        other = self.term(kind, size // 2, scope)
        if self.random.random() < 0.5:
            return super().form(kind, size, scope)
        if kind == "exp":
            return self.random.choice([("add", rest, ("num", 0)), ("add", ("num", 0), rest), ("mul", rest, ONE), ("new", "a", rest, ("read", "a"))])
        step = rest if rest[0] != "seq" else ("block", "k", rest)
        return self.random.choice([
            ("seq", SKIP, step), ("seq", rest, SKIP), ("new", "a", ("num", 0), rest), ("block", "k", rest), ("if", ("num", 0), other, rest),
            ("if", ONE, rest, other), ("while", ("num", 0), rest), ("while", ONE, SKIP),
        ])


if __name__ == "__main__":
    unittest.main()
