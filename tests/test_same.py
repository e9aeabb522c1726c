"""[5.1] to [5.3], [5.8]: pieces that have the same plays, and the first play in which pieces differ."""

import copy
import unittest

import reference_plays
from doppelganger.contexts import fill
from doppelganger.errors import BadKind, DoppelError, NotAllowed, Same, TooLarge
from doppelganger.moves import letters, read_play
from doppelganger.plays import is_play, plays
from doppelganger.reader import read_piece
from doppelganger.runs import run
from doppelganger.same import difference, same
from generate import contexts, lively_pieces, pieces, playful_pieces
from helpers import error_of
from reference import error_of_piece
from test_situations import TOO_LARGE, long_run, piece_of

# What changes nothing, for both kinds and for each kind: functions of a term.
CHANGES = {
    "com": [
        lambda term: ("seq", ("block", "zzz", ("skip",)), ("block", "zz", term)),
        lambda term: ("seq", term, ("skip",)),
        lambda term: ("seq", ("skip",), ("if", ("num", 1), term, ("fault",))),
        lambda term: ("block", "zzz", term),
        lambda term: ("block", "zzz", ("seq", term, ("exit", "zzz"))),
        lambda term: ("proc", "zzz", (("zz", "com"),), "com", ("call", "zz", ()), ("call", "zzz", (("com", term),))),
    ],
    "exp": [
        lambda term: ("add", term, ("num", 0)),
        lambda term: ("sub", term, ("num", 0)),
        lambda term: ("mul", ("num", 1), term),
        lambda term: ("do", ("skip",), term),
        lambda term: ("new", "zzz", term, ("read", "zzz")),
        lambda term: ("proc", "zzz", (("zz", "val"),), "exp", ("read", "zz"), ("call", "zzz", (("exp", term),))),
    ],
    "both": [
        lambda term: ("if", ("less", ("num", 0), ("num", 2)), term, ("fault",)),
        lambda term: ("if", ("num", 0), ("stop",), term),
        lambda term: ("new", "zzz", ("num", 2), term),
        lambda term: ("proc", "zzz", (), "com", ("fault",), term),
    ],
}


def procedure_in_the_place_of(term, kind):
    return ("proc", "zzz", (), kind, term, ("call", "zzz", ()))


def changed(piece):
    """The piece with something that changes nothing, in all ways."""
    decls, kind, term = piece
    made = [(decls, kind, change(term)) for change in CHANGES["both"] + CHANGES[kind]]
    return made + [(decls, kind, procedure_in_the_place_of(term, kind))]


def with_machine(made):
    """Those of some pieces that are sound and have a machine, with their plays."""
    found = []
    for piece in made:
        if not error_of_piece(piece) and not error_of(plays, piece):
            found.append(piece)
    return found


def pairs_of(made, most=9):
    """Pairs of comparable pieces among some pieces."""
    groups = {}
    for piece in made:
        groups.setdefault(piece[:2], []).append(piece)
    return [(one, other) for group in groups.values() for at, one in enumerate(group[:most]) for other in group[at + 1:most]]


def first_difference(first, second, most=8):
    """The first play of at most so many moves that one of two pieces has alone, and whether it is the first one."""
    signs = letters(first[0], first[1])
    one, other = reference_plays.plays_of(first, most), reference_plays.plays_of(second, most)
    alone = [play for play in one if play not in other] + [play for play in other if play not in one]
    if not alone:
        return None
    found = min(alone, key=lambda play: (len(play), [signs.index(move) for move in play]))
    return list(found), found in one


SIMPLE = ["p", "q", "p; q", "q; p", "p; p", "skip", "stop", "fault", "p; fault", "p; stop", "while 1 { p }", "if e { p } { q }",
          "if e { p } { p }", "if e { q } { p }", "f({ p })", "f({ q })", "f({ p }); p", "f({ f({ p }) })", "block k { f({ exit k }) }",
          "new x = e { if x == 1 { p } { q } }", "new x = 0 { f({ x := 1 }); if x { p } { skip } }", "f({ fault })", "f({ stop })",
          "new x = e { skip }", "new x = e { new y = e { skip } }", "new x = e { if x { fault } { skip } }", "f({ skip })"]
DECLS = "e : exp, f(com) : com, p : com"


class SameTest(unittest.TestCase):
    def setUp(self):
        texts = [text for text in SIMPLE if "q" not in text]
        self.simple = [read_piece(f"{DECLS} |- com : {text}") for text in texts]
        self.simple += [read_piece(f"p : com, q : com |- com : {text}") for text in SIMPLE if "e" not in text and "f(" not in text
                        and "fault" not in text]
        self.many = self.simple + [
            piece for piece in with_machine(playful_pieces(150, 3, 31) + pieces(200, 3, seed=31)) if len(piece[0]) < 2
        ]

    def test_other_declarations_and_kinds(self):
        first = read_piece("p : com |- com : skip")
        for text in ["|- com : skip", "q : com |- com : skip", "p : exp |- com : skip", "p(com) : com |- com : skip",
                     "p : com |- exp : 1", "p : com, q : com |- com : skip", "p : com |- exp : stop"]:
            for function in (same, difference):
                self.assertIs(error_of(function, first, read_piece(text)), BadKind)
                self.assertIs(error_of(function, read_piece(text), first), BadKind)

    def test_errors_in_their_order(self):
        large = read_piece(TOO_LARGE)
        beyond = read_piece("f(com) : com |- com : f({ block k { f({ exit k }) } })")
        fine = read_piece("f(com) : com |- com : skip")
        long = (fine[0], "com", long_run(2001))
        for function in (same, difference):
            for first, second, error in [
                (large, beyond, TooLarge), (beyond, large, NotAllowed), (fine, beyond, NotAllowed), (beyond, fine, NotAllowed),
                (long, beyond, TooLarge), (beyond, long, NotAllowed), (fine, large, TooLarge), (long, fine, TooLarge),
                (large, large, TooLarge), (beyond, beyond, NotAllowed), (beyond, read_piece("|- com : skip"), BadKind),
                (read_piece("|- com : skip"), large, BadKind), (large, ((), "com", long[2]), BadKind),
            ]:
                self.assertIs(error_of(function, first, second), error)

    def test_what_changes_nothing(self):
        count = 0
        for piece in self.many:
            for other in with_machine(changed(piece)):
                count += 1
                with self.subTest(piece=piece, other=other):
                    self.assertIs(same(piece, other), True)
                    self.assertIs(same(other, piece), True)
                    self.assertIs(error_of(difference, piece, other), Same)
        self.assertGreater(count, 1000)

    def test_pairs(self):
        found = [0, 0]
        for first, second in pairs_of(self.many):
            expected = first_difference(first, second)
            with self.subTest(first=first, second=second):
                self.assertIs(same(first, second), expected is None)
                self.assertIs(same(second, first), expected is None)
                found[expected is None] += 1
                if expected is None:
                    self.assertIs(error_of(difference, first, second), Same)
                else:
                    play, is_first = expected
                    self.assertEqual(difference(first, second), (play, is_first))
                    self.assertEqual(difference(second, first), (play, not is_first))
        self.assertGreater(min(found), 30)

    def test_pieces_are_the_same_as_themselves(self):
        for piece in self.many:
            self.assertIs(same(piece, piece), True)
            self.assertIs(error_of(difference, piece, piece), Same)

    def assert_difference(self, one, other, play, is_first, decls="e : exp, f(com, exp) : com, g(val, val) : exp"):
        first, second = piece_of(one, decls), piece_of(other, decls)
        expected = read_play(first[0], first[1], play)
        with self.subTest(one=one, other=other):
            self.assertEqual(difference(first, second), (expected, is_first))
            self.assertEqual(difference(second, first), (expected, not is_first))

    def test_differences(self):
        self.assert_difference("com : skip", "com : stop", "? !0", True)
        self.assert_difference("com : skip", "com : fault", "? !0", True)
        self.assert_difference("com : stop", "com : fault", "? !!", False)
        self.assert_difference("exp : 2", "exp : 1", "? !1", False)
        self.assert_difference("exp : e", "exp : 1", "? !1", False)
        self.assert_difference("exp : e", "exp : fault", "? !!", False)
        self.assert_difference("exp : e", "exp : g(0, 0)", "? e?", True)
        self.assert_difference("exp : g(1, 0)", "exp : g(0, 1)", "? g?1", True)
        self.assert_difference("exp : e + e", "exp : e * 2", "? e? e!0 !0", False)
        self.assert_difference("exp : e * e", "exp : if e [ e ] [ 0 ]", "? e? e!0 !0", False)
        self.assert_difference("exp : new x = e [ x * x ]", "exp : e", "? e? e!2 !1", True)
        self.assert_difference("exp : new x = e [ x == 2 ]", "exp : if e == 2 [ 2 ] [ 0 ]", "? e? e!2 !1", True)
        self.assert_difference("com : f({ skip }, 1)", "com : f({ skip }, 2)", "? f? f.2? f.2!1", True)
        self.assert_difference("com : f({ fault }, 1)", "com : f({ skip }, 1)", "? f? f.1? !!", True)
        self.assert_difference("com : f({ fault }, 1)", "com : f({ stop }, 2)", "? f? f.1? !!", True)
        self.assert_difference("com : f({ skip }, e)", "com : f({ skip }, 0)", "? f? f.2? e?", True)
        self.assert_difference("com : new x = 0 { f({ x := x + 1 }, x == 2) }", "com : f({ skip }, 0)",
                               "? f? f.1? f.1!0 f.1? f.1!0 f.2? f.2!0", False)
        self.assert_difference("com : new x = 0 { f({ x := x + 1 }, x == 2) }", "com : new x = 0 { f({ x := 1 - x }, 0) }",
                               "? f? f.1? f.1!0 f.1? f.1!0 f.2? f.2!0", False)

    def test_returned_lists_may_be_changed(self):
        first, second = piece_of("exp : e"), piece_of("exp : 1")
        play, _ = difference(first, second)
        kept = list(play)
        play.append(("!",))
        play[0] = ("!",)
        self.assertEqual(difference(first, second), (kept, False))

    def test_arguments_stay(self):
        for first, second in pairs_of(self.many, 4):
            before = copy.deepcopy((first, second))
            same(first, second)
            error_of(difference, first, second)
            self.assertEqual((first, second), before)

    def test_plays_of_differences(self):
        for first, second in pairs_of(with_machine(playful_pieces(200, 5, 33)), 6):
            if not same(first, second):
                play, is_first = difference(first, second)
                if len(play) <= 40:
                    self.assertIs(is_play(first, play), is_first)
                    self.assertIs(is_play(second, play), not is_first)


class ContextsTest(unittest.TestCase):
    """[5.8]: no context tells two pieces that are the same apart."""

    def test_filled_contexts(self):
        texts = [("exp : e + e", "exp : new x = e [ x + e ]"), ("exp : e * 0", "exp : do { new x = e { skip } } [ 0 ]"),
                 ("com : p; skip", "com : proc q() : com { p } { q }"), ("com : while 1 { p }", "com : p; while 1 { p; p; p }"),
                 ("exp : if e [ 1 ] [ 0 ]", "exp : 0 < e"), ("com : p; stop", "com : p; while 1 { skip }"),
                 ("com : new x = e { while x { p; x := 0 } }", "com : if e { p } { skip }"),
                 ("com : block k { p; exit k; p }", "com : new y = 2 { p }")]
        found = {}
        for one, other in texts:
            first, second = piece_of(one, "e : exp, p : com"), piece_of(other, "e : exp, p : com")
            self.assertIs(same(first, second), True)
            for context in self.contexts(first[1]):
                with self.subTest(context=context, first=one):
                    results = []
                    for piece in (first, second):
                        filled = fill(context, piece)
                        results.append(run(filled)[:2] if not filled[0] else plays(filled))
                    self.assertEqual(results[0], results[1])
                    found[str(results[0])[:8]] = True
        self.assertGreater(len(found), 3)

    def contexts(self, kind):
        hole = "hole" if kind == "com" else "new h = hole { if h == 1 { fault } { skip } }"
        asks = {"com": "hole : com", "exp": "hole : exp"}[kind]
        for text in [
            f"{asks} |- com : new a = 0 {{ proc e() : exp [ do {{ a := a + 1 }} [ a ] ] {{ proc p() : com {{ a := 2 }} {{ {hole} }} }} }}",
            f"{asks} |- com : new a = 1 {{ proc e() : exp [ a ] {{ proc p() : com {{ a := a - 1; if a == 2 {{ fault }} {{ skip }} }} "
            f"{{ {hole}; {hole} }} }} }}",
            f"{asks} |- com : block k {{ proc e() : exp [ exit k ] {{ proc p() : com {{ exit k }} {{ {hole}; fault }} }} }}",
            f"{asks} |- com : proc e() : exp [ 2 ] {{ proc p() : com {{ stop }} {{ {hole} }} }}",
            f"{asks} |- com : proc e() : exp [ fault ] {{ proc p() : com {{ fault }} {{ {hole} }} }}",
            f"e : exp, f(com) : com, {asks}, p : com |- com : f({{ {hole} }}); {hole}".replace(", p : com", ""),
            f"e : exp, f(com) : com, {asks} |- com : proc p() : com {{ f({{ skip }}) }} {{ {hole}; proc e() : exp [ 0 ] {{ {hole} }} }}",
            f"e : exp, {asks}, p : com |- exp : new r = 0 [ do {{ while r < 2 {{ r := e + 1; {hole} }} }} [ r ] ]",
        ]:
            # Three declarations at most: p is a procedure where f is declared.
            if "f(com)" in text and "proc p" not in text:
                text = text.replace("com : f(", "com : proc p() : com { skip } { f(") + " }"
            yield read_piece(text)

    def test_random_contexts(self):
        count = 0
        made = with_machine([piece for piece in lively_pieces(60, 3, 5) + playful_pieces(60, 3, 5)])
        for context in contexts(60, 5, 7):
            for piece in made[::3]:
                for other in changed(piece)[:3]:
                    try:
                        filled = fill(context, piece), fill(context, other)
                        expected = run(filled[0])[:2] if not filled[0][0] else plays(filled[0])
                        found = run(filled[1])[:2] if not filled[1][0] else plays(filled[1])
                    except DoppelError:
                        continue
                    self.assertEqual(found, expected)
                    count += 1
        self.assertGreater(count, 20)


if __name__ == "__main__":
    unittest.main()
