"""[8.8]: code around a piece that shows a play."""

import copy
import random
import unittest

from doppelganger.around import around_of
from doppelganger.compiler import compile_piece
from doppelganger.cpu import run_code
from doppelganger.errors import BadForm, NotAllowed, TooLarge
from doppelganger.moves import FAULT, QUESTION, is_other, letters, read_play
from doppelganger.names import check_piece
from doppelganger.reader import read_piece
from doppelganger.terms import row
from doppelganger.witness import is_possible
from generate import leaving_pieces, lively_pieces, playful_pieces
from helpers import error_of
from reference_plays import has_play, shows, walk
from test_cpu import counting_code
from test_witness import WIDE, random_play

DECLS = "e : exp, f(com, exp) : com, g(val, val) : exp"
FAULT_TERM = ("fault",)


def result_of(piece, play):
    """What the code of a piece comes to with the code that shows a play."""
    around, entry = around_of(piece[0], piece[1], play)
    return run_code(compile_piece(piece), around, entry)[0]


def is_own(move):
    return move == FAULT or not is_other(move)


class AroundCase(unittest.TestCase):
    def assert_shown(self, text, decls, cases):
        piece = read_piece(f"{decls} |- {text}")
        for play, expected in cases:
            with self.subTest(text=text, play=play):
                moves = read_play(piece[0], piece[1], play)
                self.assertEqual(result_of(piece, moves), expected)
                self.check(piece, moves)

    def check(self, piece, play):
        """The result is what the other account of plays says."""
        result = result_of(piece, play)
        if play[-1] == FAULT:
            self.assertEqual(result == "faulted", shows(piece, play), (piece, play))
        else:
            self.assertEqual(result == "done", has_play(piece, play), (piece, play))
        return result


class ShownTest(AroundCase):
    def test_answers_of_the_piece(self):
        for value in range(3):
            self.assert_shown(f"exp : {value}", DECLS, [
                (f"? !{other}", "done" if other == value else "faulted") for other in range(3)
            ] + [("? !!", "done"), ("? e?", "faulted"), ("? e? e!0 !!", "done")])
        self.assert_shown("com : skip", DECLS, [("? !0", "done"), ("? !!", "done"), ("? f?", "faulted")])
        self.assert_shown("com : stop", DECLS, [("? !0", "never"), ("? !!", "never"), ("? f?", "never"), ("? f? f!0 !0", "never")])
        self.assert_shown("com : fault", DECLS, [("? !0", "faulted"), ("? !!", "faulted"), ("? f?", "faulted"), ("? f? f!0 !!", "faulted")])

    def test_calls(self):
        self.assert_shown("exp : e + e", DECLS, [
            ("? e?", "done"), ("? e? e!1 e?", "done"), ("? e? e!1 e? e!1 !2", "done"), ("? e? e!2 e? e!2 !1", "done"),
            ("? e? e!2 e? e!2 !2", "faulted"), ("? e? e!2 !2", "faulted"), ("? e? e!2 f?", "faulted"), ("? e? e!2 !!", "done"),
            ("? e? e!2 e? e!0 !!", "done"), ("? e? e!2 e? e!0 e?", "faulted"), ("? e? e!2 e? e!0 e? e!0 !!", "done"), ("? g?0", "faulted"),
        ])
        self.assert_shown("exp : e + fault", DECLS, [
            ("? e? e!1 !!", "faulted"), ("? e? e!1 e?", "faulted"), ("? e? e!1 e? e!2 !!", "faulted"), ("? f? f!0 !!", "done"),
            ("? e?", "done"), ("? !!", "done"),
        ])

    def test_values_of_calls(self):
        for one in range(3):
            for two in range(3):
                for value in range(9):
                    expected = value == one + 3 * two
                    self.assert_shown(f"exp : g({one}, {two})", DECLS, [
                        (f"? g?{value}", "done" if expected else "faulted"), (f"? g?{value} g!2 !2", "done" if expected else "faulted"),
                        (f"? g?{value} g!1 !!", "done"),
                    ])
        self.assert_shown("com : p(1, { skip })", "p(val, com) : com", [
            ("? p?1 p.2? p.2!0 p!0 !0", "done"), ("? p?2", "faulted"), ("? p?0 p.2? p.2!0", "faulted"), ("? p?1 p.2? p?1", "faulted")])
        self.assert_shown("com : p(1, 2)", "p(exp, val) : com", [
            ("? p?2 p.1? p.1!1 p!0 !0", "done"), ("? p?1 p.1? p.1!1", "faulted"), ("? p?2 p.1? p.1!2", "faulted")])

    def test_arguments(self):
        self.assert_shown("com : new x = 1 { f({ x := x + 1 }, x) }", DECLS, [
            ("? f? f.2? f.2!1", "done"), ("? f? f.2? f.2!2", "faulted"), ("? f? f.1? f.1!0 f.2? f.2!2", "done"),
            ("? f? f.1? f.1!0 f.1? f.1!0 f.2? f.2!0 f!0 !0", "done"), ("? f? f.1? f.1!0 f.1? f.1!0 f.2? f.2!1 f!0 !0", "faulted"),
            ("? f? f.1? !!", "done"), ("? f? f.1? f.1!0 f!0 !!", "done"), ("? f? f.1? f?", "faulted"),
        ])
        self.assert_shown("com : f({ f({ skip }, 1) }, 2)", DECLS, [
            ("? f? f.1? f? f.1? f.1!0 f!0 f.1!0 f!0 !0", "done"), ("? f? f.1? f? f.2? f.2!1", "done"), ("? f? f.2? f.2!2 f!0 !0", "done"),
            ("? f? f.1? f? f.2? f.2!2", "faulted"), ("? f? f.1? f? f!0 f.1!0 f.2? f.2!2", "done"),
        ])

    def test_exits_out_of_arguments(self):
        self.assert_shown("com : block k { f({ exit k }, 1) }; fault", DECLS, [
            ("? f? f.1? !!", "faulted"), ("? f? f.2? f.2!1 f.1? !!", "faulted"), ("? f? f!0 !!", "faulted"), ("? f? f.1? f.1!0", "faulted"),
            ("? f? f.1? !0", "faulted"), ("? f? f.1? f?", "faulted"),
        ])
        self.assert_shown("com : while 1 { block k { f({ exit k }, e) } }", DECLS, [
            ("? f? f.1? f? f.1? f? f.2? e? e!2 f.2!2 f!0 f?", "done"), ("? f? f.1? f? f.1? f? f.2? e? e!2 f.2!1 f!0 f?", "faulted"),
            ("? f? f.1? f? f.1? f? f.2? e? e!2 !!", "done"),
        ])

    def test_hole_may_be_declared(self):
        self.assert_shown("com : hole", "hole : com", [("? hole? hole!0 !0", "done"), ("? !0", "faulted"), ("? hole? hole!0 !!", "done")])

    def test_pieces_beyond_the_border(self):
        text = "com : f({ block k { f({ exit k }, 1) } }, 2)"
        # The answer of the first argument belongs to the first call, although the second one was asked for it, too.
        self.assert_shown(text, DECLS, [
            ("? f? f.1? f? f.1? f.1!0", "done"), ("? f? f.1? f? f.1? f.1!0 f.2? f.2!2", "done"), ("? f? f.1? f? f.1? f.1!0 f.2? f.2!1", "faulted"),
            ("? f? f.1? f? f.1? f.1!0 f!0 !0", "done"), ("? f? f.1? f? f.1? f.1!0 f!0 f.1!0", "faulted"),
            ("? f? f.1? f? f.1? !!", "done"), ("? f? f.1? f? f.1? f.1!0 f!0 !!", "done"),
        ])

    def test_runs_that_are_too_long(self):
        code, begun = counting_code(2001)
        self.assertEqual(begun, 2001)
        around, entry = around_of((), "exp", [QUESTION, ("", 0, True, 1)])
        self.assertIs(error_of(run_code, code, around, entry), TooLarge)
        self.assertEqual(run_code(counting_code(2000)[0], around, entry)[0], "done")

    def test_plays_of_pieces(self):
        chance = random.Random(90)
        told = {}
        made = playful_pieces(150, 4, 91) + leaving_pieces(100, 5, 92) + lively_pieces(60, 5, 93)
        # Many of them go on to a fault.
        made += [(decls, kind, row(term, FAULT_TERM)) for decls, kind, term in made if kind == "com"]
        made = [piece for piece in made if error_of(check_piece, piece) is None and error_of(compile_piece, piece) is None]
        for piece in made:
            play = walk(piece, 12, chance)
            own = [move for move in letters(piece[0], piece[1]) if is_own(move)]
            plays = [play[:size] for size in range(2, len(play) + 1, 2)]
            plays += [each[:-1] + [last] for each in plays for last in (FAULT, chance.choice(own))]
            others = [other for other in made if other[:2] == piece[:2]]
            for each in plays:
                if is_possible(piece[0], piece[1], each):
                    for other in [piece, chance.choice(others)]:
                        what = (len(each), self.check(other, each), each[-1] == FAULT)
                        told[what] = told.get(what, 0) + 1
        for length in range(2, 13, 2):
            for what in [("done", False), ("faulted", False), ("done", True), ("faulted", True)]:
                self.assertGreater(told[(length, *what)], 2, (length, *what))

    def test_plays_at_random(self):
        chance = random.Random(94)
        made = [piece for piece in playful_pieces(200, 4, 95) + leaving_pieces(100, 4, 95)
                if error_of(check_piece, piece) is None and error_of(compile_piece, piece) is None]
        for piece in made:
            for length in (2, 4, 6, 8, 10, 12):
                play = random_play(piece[0], piece[1], length, chance)
                if play is not None:
                    self.check(piece, play)


class AroundTest(unittest.TestCase):
    def test_what_is_returned(self):
        chance = random.Random(96)
        for kind in ("com", "exp"):
            for length in (2, 4, 6, 8, 10, 12) * 5:
                play = random_play(WIDE, kind, length, chance)
                before = copy.deepcopy(play)
                around, entry = around_of(WIDE, kind, play)
                self.assertEqual(play, before)
                self.assertLessEqual(len(around), 400)
                self.assertIs(around.__class__, list)
                self.assertIs(entry.__class__, int)
                for pair in around:
                    self.assertEqual([each.__class__ for each in (pair, *pair)], [tuple, int, int])
                kept = list(around)
                around.clear()
                self.assertEqual(around_of(WIDE, kind, play), (kept, entry))

    def test_large_plays(self):
        decls = tuple((name, ("exp", "exp"), "exp") for name in "abc")
        play = [QUESTION]
        for name in "abc":
            play += [(name, 0, False, 0), (name, 1, False, 0), (name, 1, True, 2), (name, 2, False, 0)]
        for last in (("c", 1, True, 2), FAULT):
            around, _ = around_of(decls, "exp", play[:11] + [last])
            self.assertLessEqual(len(around), 400)
        decls = tuple((name, ("val", "val"), "exp") for name in "abc")
        play = [QUESTION] + [(name, 0, answers, 8 if not answers else 2) for name in "abcab" for answers in (False, True)] + [FAULT]
        self.assertLessEqual(len(around_of(decls, "com", play)[0]), 400)

    def test_errors_in_order(self):
        possible, wrong = [QUESTION, ("", 0, True, 0)], [QUESTION]
        decls = (("p", (), "com"),)
        long_play = [QUESTION] + [("p", 0, False, 0), ("p", 0, True, 0)] * 6 + [("", 0, True, 0)]
        for each_decls, kind, play, error in [
            (decls, "com", possible, None), (decls, "com", long_play, TooLarge), (decls, "com", long_play[:13] + [FAULT], TooLarge),
            (decls, "com", long_play[:11] + [FAULT], None), (decls, "com", long_play[:-1], BadForm), (decls, "com", [], BadForm),
            (decls, "com", wrong, BadForm), (decls, "com", long_play[1:], BadForm), (decls, "val", possible, NotAllowed),
            (decls, "val", wrong, NotAllowed), (decls, "", long_play, NotAllowed), (decls * 2, "com", possible, NotAllowed),
            ((("p", ("x",), "com"),), "com", long_play, NotAllowed), ((("skip", (), "com"),), "com", wrong, NotAllowed),
            ((("p", (), "val"),), "com", long_play, NotAllowed), ((("q", (), "com"), ("p", (), "com")), "com", possible, NotAllowed),
            (tuple((name, (), "com") for name in "abcd"), "com", possible, NotAllowed), ((), "com", long_play, BadForm),
            ((("p", ("com",) * 3, "com"),), "com", possible, NotAllowed), (decls, "exp", long_play, TooLarge),
            ((("hole", (), "com"),), "com", possible, None), ((("hole", (), "com"),), "com", wrong, BadForm),
        ]:
            with self.subTest(decls=each_decls, kind=kind, play=play):
                self.assertIs(error_of(around_of, each_decls, kind, play), error)


if __name__ == "__main__":
    unittest.main()
