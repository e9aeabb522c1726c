"""[4.1], [4.2], [4.5], [4.6], [4.9]: what a piece does behind the moves of the other side."""

import copy
import unittest

import reference_plays
from doppelganger.errors import NotAllowed, TooLarge
from doppelganger.moves import QUESTION, is_other, letters, move_text, read_play
from doppelganger.plays import plays
from doppelganger.reader import read_piece
from doppelganger.situations import count_situations, reply
from generate import lively_pieces, pieces, playful_pieces
from helpers import ONE, error_of, row_with_nodes
from reference import error_of_piece

DECLS = "e : exp, f(com, exp) : com, g(val, val) : exp"
# Too large to unfold, and beyond the border.
TOO_LARGE = ("f(com) : com |- com : proc p() : com { " + "skip; " * 31 + "skip } { f({ block k { f({ exit k }) } }); "
             + "; ".join(["p"] * 8) + " }")


def piece_of(text, decls=DECLS):
    return read_piece(f"{decls} |- {text}")


def reply_text(piece, play):
    """The text of the reply, or None."""
    move = reply(piece, read_play(piece[0], piece[1], play))
    return None if move is None else move_text(piece[0], move)


class ReplyCase(unittest.TestCase):
    def assert_replies(self, piece, cases):
        for play, expected in cases:
            with self.subTest(play):
                self.assertEqual(reply_text(piece, play), expected)

    def assert_error(self, piece, play, error):
        with self.subTest(play):
            self.assertIs(error_of(reply, piece, read_play(piece[0], piece[1], play)), error)


class MovesTest(ReplyCase):
    def test_first_moves(self):
        for text, expected in [
            ("com : skip", "!0"), ("com : fault", "!!"), ("com : stop", None), ("exp : 2", "!2"), ("exp : fault", "!!"),
            ("exp : 1 + 1 * 2", "!0"), ("com : new e = 0 { e := 1 }", "!0"), ("exp : e", "e?"), ("com : f({ skip }, 1)", "f?"),
            ("exp : g(1, 2)", "g?7"), ("exp : g(2, 1)", "g?5"), ("exp : g(0, 0)", "g?0"), ("exp : g(2, 2)", "g?8"),
            ("exp : 1 + e", "e?"), ("exp : if e [ 1 ] [ 2 ]", "e?"), ("com : while e { skip }", "e?"),
            ("com : while 0 { fault }; fault", "!!"), ("com : block k { exit k; fault }", "!0"),
            ("exp : new x = 1 [ x + x ]", "!2"), ("exp : new x = e [ x ]", "e?"), ("exp : do { fault } [ e ]", "!!"),
            ("exp : do { skip } [ e ]", "e?"), ("exp : fault + e", "!!"), ("exp : e + fault", "e?"),
            ("exp : 1 == stop", None), ("com : while 1 { skip }", None), ("exp : proc e() : exp [ 2 ] [ e ]", "!2"),
        ]:
            with self.subTest(text):
                self.assertEqual(reply_text(piece_of(text), "?"), expected)

    def test_answers_of_each_value(self):
        piece = piece_of("exp : e * 2 + (if e [ e ] [ 1 ])")
        for one in range(3):
            for other in range(3):
                play = f"? e? e!{one} e? e!{other}"
                if other == 0:
                    self.assert_replies(piece, [(play, f"!{(one * 2 + 1) % 3}")])
                else:
                    self.assert_replies(piece, [(play, "e?")])
                    for third in range(3):
                        self.assert_replies(piece, [(f"{play} e? e!{third}", f"!{(one * 2 + third) % 3}")])

    def test_arguments_by_value_are_run_ahead(self):
        piece = piece_of("exp : new x = 0 [ g(do { x := x + 1 } [ x ], e + x) * 2 + x ]")
        self.assert_replies(piece, [("?", "e?")] + [
            case for value in range(3) for question in [1 + 3 * ((value + 1) % 3)] for case in
            [(f"? e? e!{value}", f"g?{question}")]
            + [(f"? e? e!{value} g?{question} g!{answer}", f"!{(answer * 2 + 1) % 3}") for answer in range(3)]
        ])

    def test_arguments_by_value_beside_others(self):
        piece = read_piece("h(com, val) : com, k(val, com) : com |- com : new x = 1 { h({ x := 0 }, x); k(x, { k(x, { fault }) }) }")
        self.assert_replies(piece, [
            ("?", "h?1"), ("? h?1 h!0", "k?1"), ("? h?1 h.1?", "h.1!0"), ("? h?1 h.1? h.1!0 h!0", "k?0"),
            ("? h?1 h.1? h.1!0 h.1? h.1!0 h!0 k?0 k.2?", "k?0"), ("? h?1 h!0 k?1 k.2?", "k?1"),
            ("? h?1 h!0 k?1 k.2? k?1 k.2?", "!!"), ("? h?1 h!0 k?1 k.2? k?1 k!0", "k.2!0"),
            ("? h?1 h!0 k?1 k.2? k?1 k!0 k.2!0 k!0", "!0"),
        ])
        self.assert_error(piece, "? h?1 h!0 k?1 k.2? k?1 k!0 k.2!0 k.2? k?1 k.2? !! k!0", NotAllowed)

    def test_arguments_by_name(self):
        piece = piece_of("exp : new x = 0 [ do { f({ x := x + 1 }, x + x) } [ x ] ]")
        self.assert_replies(piece, [
            ("?", "f?"), ("? f? f!0", "!0"), ("? f? f.1?", "f.1!0"), ("? f? f.2?", "f.2!0"),
            ("? f? f.1? f.1!0 f!0", "!1"), ("? f? f.1? f.1!0 f.2?", "f.2!2"), ("? f? f.1? f.1!0 f.1? f.1!0 f.2?", "f.2!1"),
            ("? f? f.1? f.1!0 f.1? f.1!0 f.1? f.1!0 f.2?", "f.2!0"), ("? f? f.2? f.2!0 f.1? f.1!0 f.2? f.2!2 f!0", "!1"),
        ])

    def test_arguments_within_one_another(self):
        piece = piece_of("exp : new x = 0 [ do { f({ f({ x := 1 }, x); x := x + 1 }, 2) } [ x ] ]")
        self.assert_replies(piece, [
            ("? f? f.1?", "f?"), ("? f? f.1? f? f.2?", "f.2!0"), ("? f? f.1? f? f.1?", "f.1!0"),
            ("? f? f.1? f? f.1? f.1!0 f.2?", "f.2!1"), ("? f? f.1? f? f.1? f.1!0 f!0", "f.1!0"),
            ("? f? f.1? f? f!0", "f.1!0"), ("? f? f.1? f? f!0 f.1!0 f.2?", "f.2!2"), ("? f? f.1? f? f!0 f.1!0 f!0", "!1"),
            ("? f? f.1? f? f.1? f.1!0 f!0 f.1!0 f!0", "!2"), ("? f? f.1? f? f!0 f.1!0 f.1? f? f!0 f.1!0 f!0", "!2"),
        ])

    def test_an_exit_out_of_an_argument(self):
        piece = piece_of("exp : new x = 1 [ do { block k { f({ new y = 2 { x := y; f({ skip }, exit k) } }, e); x := 0 } } [ x ] ]")
        self.assert_replies(piece, [
            ("? f? f!0", "!0"), ("? f? f.1?", "f?"), ("? f? f.1? f? f.1?", "f.1!0"), ("? f? f.1? f? f.2?", "!2"),
            ("? f? f.1? f? f!0", "f.1!0"), ("? f? f.1? f? f!0 f.1!0 f!0", "!0"), ("? f? f.2?", "e?"), ("? f? f.2? e? e!1", "f.2!1"),
            ("? f? f.1? f? f!0 f.1!0 f.1? f? f.2?", "!2"),
        ])

    def test_an_exit_gives_up_what_was_called_behind_it(self):
        # The label k stands within the first argument, and the exit leaves second ones alone.
        piece = piece_of("com : block j { f({ block k { f({ skip }, exit k) }; skip }, 1) }")
        self.assert_replies(piece, [
            ("? f? f.1? f? f.2?", "f.1!0"), ("? f? f.1? f? f.2? f.1!0 f.2?", "f.2!1"), ("? f? f.1? f? f.2? f.1!0 f!0", "!0"),
            ("? f? f.1? f? f.2? f.1!0 f.1? f? f!0", "f.1!0"),
        ])
        self.assert_error(piece, "? f? f.1? f? f.2? f.1!0 f!0 !0 f!0", NotAllowed)

    def test_an_exit_goes_back_to_what_was_open_at_the_block(self):
        piece = piece_of("exp : 1 + (do { block k { new x = 2 { f({ skip }, e + g(1, 2 * exit k)) } } } [ e ])")
        self.assert_replies(piece, [
            ("? f? f.2?", "e?"), ("? f? f.2? e? e!0", "e?"), ("? f? f.2? e? e!0 e? e!1", "!2"), ("? f? f!0 e? e!1", "!2"),
        ])

    def test_an_exit_within_an_argument(self):
        piece = piece_of("exp : g(e, do { block k { new x = 1 + exit k { skip } } } [ e ]) + 1")
        self.assert_replies(piece, [("? e? e!2", "e?"), ("? e? e!2 e? e!1", "g?5"), ("? e? e!2 e? e!1 g?5 g!1", "!2")])
        piece = piece_of("exp : g(e, do { block k { exit k } } [ 1 ]) - 1")
        self.assert_replies(piece, [("? e? e!2", "g?5"), ("? e? e!2 g?5 g!0", "!2")])

    def test_variables_of_loops_and_blocks(self):
        piece = piece_of("exp : new x = 0 [ do { while x < 2 { new y = e { x := x + y } } } [ x ] ]")
        self.assert_replies(piece, [
            ("? e? e!2", "!2"), ("? e? e!1", "e?"), ("? e? e!1 e? e!2", "e?"), ("? e? e!1 e? e!1", "!2"),
            ("? e? e!1 e? e!2 e? e!0 e? e!2", "!2"),
        ])

    def test_procedures_are_unfolded(self):
        piece = piece_of("exp : proc p(a : val, b : exp) : exp [ do { a := a + 1 } [ a * b ] ] [ p(e, e) + p(1, e) ]")
        self.assert_replies(piece, [
            ("?", "e?"), ("? e? e!1", "e?"), ("? e? e!1 e? e!2", "e?"), ("? e? e!1 e? e!2 e? e!1", "!0"),
            ("? e? e!0 e? e!1 e? e!0", "!1"),
        ])

    def test_all_beginnings_of_many_pieces(self):
        count = 0
        for piece in playful_pieces(120, 5, 7) + playful_pieces(120, 8, 7) + pieces(200, 5, seed=7) + lively_pieces(60, 6, 7):
            if error_of_piece(piece) or error_of(count_situations, piece):
                continue
            before = copy.deepcopy(piece)
            found = list(reference_plays.plays_of(piece, 6))[:60]
            for play in found:
                moves = list(play[:-1])
                with self.subTest(piece=piece, moves=moves):
                    self.assertEqual(reply(piece, moves), play[-1])
                    self.assertEqual(moves, list(play[:-1]))
                count += 1
            self.assertEqual(piece, before)
        self.assertGreater(count, 1500)


class ListsTest(ReplyCase):
    PIECE = read_piece("p : com |- com : p; p; fault")

    def test_empty_and_even_lists(self):
        for play in ["", "? p?", "? p? p!0 p?", "? p? p!0 p? p!0 !!", "p? p?", "? ?"]:
            self.assert_error(self.PIECE, play, NotAllowed)

    def test_lists_that_do_not_fit(self):
        for play in ["p?", "p!0", "!0", "!!", "? ? ?", "? p? p?", "? p? ?", "? p? !0", "? p? !!", "? !! ?", "? !0 p!0",
                     "? p!0 p!0", "p!0 p? p!0", "? p? p!0 !! p!0", "? p? p!0 p!0 p!0", "? p? p!0 p? ?", "!0 p? p!0"]:
            self.assert_error(self.PIECE, play, NotAllowed)
        for moves in [[("p", 0, False, 0)], [QUESTION, ("p", 0, False, 0), ("p", 0, True, 1)],
                      [QUESTION, ("p", 0, False, 0), ("q", 0, True, 0)], [QUESTION, ("p", 0, False, 0), ("p", 1, False, 0)],
                      [QUESTION, ("p", 0, False, 1), ("p", 0, True, 0)], [("", 0, False, 1)], [("", 1, False, 0)],
                      [QUESTION, ("p", 0, False, 0), ("p", 0, True, -1)]]:
            self.assertIs(error_of(reply, self.PIECE, moves), NotAllowed)

    def test_lists_that_go_on_behind_the_end(self):
        self.assertEqual(reply_text(self.PIECE, "? p? p!0 p? p!0"), "!!")
        for play in ["? p? p!0 p? p!0 !! p!0", "? p? p!0 p? p!0 !! ?", "? p? p!0 p? p!0 !0 p!0", "? p? p!0 p? p!0 p? p!0"]:
            self.assert_error(self.PIECE, play, NotAllowed)
        self.assert_error(read_piece("|- com : skip"), "? !0 ?", NotAllowed)
        stops = read_piece("p : com |- com : p; stop")
        self.assertIsNone(reply_text(stops, "? p? p!0"))
        for play in ["? p? p!0 p? p!0", "? p? p!0 !0 p!0", "? p? p!0 !! p!0"]:
            self.assert_error(stops, play, NotAllowed)

    def test_arguments_that_cannot_be_asked(self):
        piece = read_piece("f(com) : com, g(val) : com, p : com |- com : f({ p }); g(1)")
        for play in ["? f? p!0", "? f? g!0", "? f? f.1? p? f!0", "? f? f.1? p? f.1?", "? f? f.1? f.1!0 p!0",
                     "? f? f.1? p? p!0 f.1!0 f.1? p? f!0", "? f? f!0 g?1 f!0", "? f? f!0 g?1 f.1?"]:
            self.assert_error(piece, play, NotAllowed)
        self.assertIs(error_of(reply, piece, read_play(*piece[:2], "? f? f!0 g?1") + [("g", 1, False, 0)]), NotAllowed)

    def test_39_and_41_moves(self):
        piece = read_piece("p : com |- com : while 1 { p }")
        for count, error in [(19, None), (20, NotAllowed), (21, NotAllowed), (30, NotAllowed)]:
            play = "?" + " p? p!0" * count
            moves = [QUESTION] + read_play(piece[0], "com", "p? p!0") * count
            self.assertEqual(len(play.split(" ")), len(moves))
            self.assertIs(error_of(reply, piece, moves), error)
        self.assertEqual(reply_text(piece, "?" + " p? p!0" * 19), "p?")
        self.assertIs(error_of(reply, piece, [QUESTION] * 40), NotAllowed)

    def test_errors_in_their_order(self):
        large = read_piece(TOO_LARGE)
        beyond = read_piece("f(com) : com |- com : f({ block k { f({ exit k }) } })")
        long = ((), "com", long_run(2001))
        for moves in [[], [QUESTION], [QUESTION] * 2, [QUESTION] * 41]:
            self.assertIs(error_of(reply, large, moves), TooLarge)
            self.assertIs(error_of(reply, beyond, moves), NotAllowed)
        self.assertIs(error_of(reply, long, [QUESTION]), TooLarge)
        for moves in [[], [QUESTION] * 2, [QUESTION] * 41, [("", 0, True, 0)], [QUESTION] * 42, [("p", 0, True, 0)]]:
            self.assertIs(error_of(reply, long, moves), NotAllowed)
        self.assertIs(error_of(count_situations, large), TooLarge)
        self.assertIs(error_of(count_situations, beyond), NotAllowed)
        self.assertIs(error_of(count_situations, long), TooLarge)

    def test_it_does_not_matter_how_many_situations_there_are(self):
        piece = read_piece(many_situations(7))
        self.assertIs(error_of(count_situations, piece), TooLarge)
        self.assertEqual(reply_text(piece, "?" + " e? e!2" * 7), "!0")

    def test_long_runs_that_are_not_come_to(self):
        piece = (read_piece("e : exp |- com : skip")[0], "com", ("if", ("call", "e", ()), long_run(2001), ("fault",)))
        self.assert_replies(piece, [("?", "e?"), ("? e? e!0", "!!")])
        for value in (1, 2):
            self.assert_error(piece, f"? e? e!{value}", TooLarge)
            self.assert_error(piece, f"? e? e!{value} !0 e!0", TooLarge)
        self.assert_error(piece, "? e? e!0 e? e!1", NotAllowed)
        self.assert_error(piece, "? !! e!1", NotAllowed)


def many_situations(count, last="skip"):
    """A piece that asks for the values of so many variables, one after another."""
    names = "abcdghij"[:count]
    text = last
    for name in reversed(names):
        text = f"new {name} = e {{ {text} }}"
    return f"e : exp |- com : {text}"


def long_run(beats):
    """A command without calls that makes so many beats and ends; it is a row."""
    # A counter of three variables makes 26 rounds.
    text = ("new a = 0 { new b = 0 { new c = 0 { block k { while 1 { a := a + 1; if a { skip } { b := b + 1; "
            "if b { skip } { c := c + 1; if c { skip } { exit k } } }; PAD } } } } }")
    for pad in range(1, 40):
        term = read_piece("|- com : " + text.replace("PAD", "; ".join(["skip"] * pad)))[2]
        made = beats_of(term)
        if made + 1 < beats < made + 80:
            return ("seq", command_with_nodes(beats - made - 1), term)
    raise AssertionError(beats)


def command_with_nodes(count):
    """A command with so many nodes, each of which is begun once."""
    if count == 1:
        return ("skip",)
    if count % 2:
        return row_with_nodes(count)
    return ("block", "j", row_with_nodes(count - 1))


def beats_of(term):
    """The number of beats of a command that ends."""
    player = reference_plays.Player()
    # No limit while it is counted.
    player.beat = lambda many=1: setattr(player, "beats", player.beats + many)
    list(player.whole(reference_plays.unfolded(((), "com", term))[0]))
    return player.beats


class BeatsTest(ReplyCase):
    def test_exactly_2000_and_2001_beats(self):
        for beats in (1998, 1999, 2000, 2001, 2002, 2050):
            term = long_run(beats)
            self.assertEqual(beats_of(term), beats)
            piece = ((), "com", term)
            error = TooLarge if beats > 2000 else None
            self.assertIs(error_of(reply, piece, [QUESTION]), error)
            self.assertIs(error_of(count_situations, piece), error)
            self.assertIs(error_of(plays, piece), error)

    def test_the_last_beat_may_be_anything(self):
        for last in [("fault",), ("stop",), ("call", "p", ()), ("while", ("num", 0), ("skip",))]:
            more = 2 if last[0] == "while" else 1
            for beats in (1999 - more, 2000 - more):
                piece = ((("p", (), "com"),), "com", ("seq", long_run(beats), last))
                error = TooLarge if beats + 1 + more > 2000 else None
                with self.subTest(last=last, beats=beats):
                    self.assertIs(error_of(reply, piece, [QUESTION]), error)

    def test_each_move_of_the_other_side_begins_a_new_count(self):
        decls = (("f", ("com",), "com"), ("p", (), "com"))
        long = long_run(1900)
        term = ("seq", ("seq", long, ("call", "p", ())), ("block", "z", long))
        piece = (decls, "com", term)
        self.assert_replies(piece, [("?", "p?"), ("? p? p!0", "!0")])
        argument = (decls, "com", ("seq", long, ("call", "f", (("com", long),))))
        self.assert_replies(argument, [("?", "f?"), ("? f? f.1?", "f.1!0"), ("? f? f.1? f.1!0 f.1?", "f.1!0")])
        both = (decls, "com", ("seq", long, ("block", "z", long)))
        self.assert_error(both, "?", TooLarge)

    def test_a_long_run_behind_an_answer(self):
        for beats in (1999, 2000, 2001):
            piece = ((("e", (), "exp"),), "com", ("if", ("call", "e", ()), long_run(beats), ("skip",)))
            error = TooLarge if beats > 2000 else None
            self.assert_error(piece, "? e? e!1", error)
            self.assertIs(error_of(count_situations, piece), error)
            self.assertIs(error_of(plays, piece), error)
            self.assert_replies(piece, [("? e? e!0", "!0")])

    def test_loops_that_come_back_behind_one_move(self):
        for text, expected in [
            ("while 1 { skip }", None), ("while 2 { new y = 1 { y := 0 } }", None), ("new x = 0 { while 1 { x := x + 1 } }", None),
            ("new x = 0 { while x < 2 { x := x + 1 } }", "!0"), ("new x = 0 { while 1 { x := 1 }; fault }", None),
            ("new x = 0 { while 1 { while x < 2 { x := x + 1 }; x := 0 } }", None),
            ("new x = 1 { new y = 0 { while x { y := y + 1; if y { skip } { x := x - 1 } } } }", "!0"),
            ("block k { while 1 { exit k } }", "!0"), ("new x = 0 { while 1 { x := x - 1; if x == 1 { fault } { skip } } }", "!!"),
            ("new x = 0 { while 1 { x := x + 1; if x == 2 { new y = e { skip } } { skip } } }", "e?"),
        ]:
            with self.subTest(text):
                self.assertEqual(reply_text(piece_of("com : " + text), "?"), expected)

    def test_loops_that_come_back_behind_several_moves(self):
        piece = piece_of("com : while 1 { new y = e { skip } }")
        self.assert_replies(piece, [("?" + " e? e!1" * count, "e?") for count in range(8)])
        piece = piece_of("com : while e { skip }")
        self.assert_replies(piece, [("?" + " e? e!1" * count, "e?") for count in range(8)])
        self.assert_replies(piece, [("? e? e!1 e? e!0", "!0")])
        piece = piece_of("com : new x = 0 { while 1 { if x { x := 0 } { x := e } } }")
        self.assert_replies(piece, [("?", "e?"), ("? e? e!1", "e?"), ("? e? e!1 e? e!2", "e?"), ("? e? e!0", "e?")])
        piece = piece_of("com : new x = e { while 1 { if x == 2 { x := e } { skip } } }")
        self.assert_replies(piece, [("? e? e!0", None), ("? e? e!2", "e?"), ("? e? e!2 e? e!2", "e?"), ("? e? e!2 e? e!1", None)])

    def test_the_times_ahead_of_the_move_do_not_count(self):
        # Ahead of the answer the loop was begun with x = 0, and so it is behind it.
        piece = piece_of("com : new x = 0 { while 1 { new y = e { while y { skip }; if y { x := 1 } { x := 0 } } } }")
        self.assert_replies(piece, [("? e? e!0", "e?"), ("? e? e!0 e? e!0", "e?"), ("? e? e!1", None)])

    def test_loops_that_are_begun_again(self):
        piece = piece_of("exp : new x = 0 [ do { while x < 2 { x := x + 1; new y = 0 { while y < 2 { y := y + 1 } } } } [ x ] ]")
        self.assert_replies(piece, [("?", "!2")])
        piece = piece_of("com : new x = 0 { while x < 2 { x := x + 1; block k { while 1 { exit k } } }; fault }")
        self.assert_replies(piece, [("?", "!!")])

    def test_only_open_variables_count(self):
        # y is closed when the loop begins again, z is hidden and open all the same.
        self.assert_replies(piece_of("com : while 1 { new y = 0 { y := y + 1 } }"), [("?", None)])
        self.assert_replies(piece_of("com : new z = 0 { new c = 0 { while c < 2 { z := z + 1; if z { skip } { c := c + 1 }; "
                                     "new z = 0 { z := 2 } } }; fault }"), [("?", "!!")])
        self.assert_replies(piece_of("com : new z = 2 { proc d(a : com) : com { new z = 0 { while 1 { a; if z { skip } { skip } } } } "
                                     "{ block k { d({ z := z - 1; if z { skip } { exit k } }) } } }; fault"), [("?", "!!")])


class SituationsTest(unittest.TestCase):
    def assert_counts(self, cases, decls=DECLS):
        for text, count in cases:
            with self.subTest(text):
                self.assertEqual(count_situations(piece_of(text, decls)), count)

    def test_no_situations(self):
        self.assert_counts([("com : skip", 0), ("com : stop", 0), ("com : fault", 0), ("exp : 1", 0), ("com : while 1 { skip }", 0),
                            ("exp : if 1 [ 2 ] [ e ]", 0), ("com : stop; f({ skip }, 1)", 0)])

    def test_calls(self):
        self.assert_counts([
            ("exp : e", 1), ("exp : e + 1", 1), ("com : f({ skip }, 1)", 1), ("com : f({ f({ skip }, 1) }, e)", 3),
            ("com : f({ skip }, 1); f({ skip }, 1)", 2), ("com : while 1 { f({ skip }, 1) }", 1), ("exp : if 0 [ e ] [ 1 + e ]", 1),
            ("exp : if e [ e ] [ e ]", 3), ("com : proc p() : com { f({ skip }, 1) } { p; p }", 2),
            ("com : proc p(a : com) : com { a; a } { p({ f({ skip }, 1) }) }", 2),
        ])

    def test_variables(self):
        self.assert_counts([
            ("com : new x = e { f({ skip }, 1) }", 1 + 3), ("com : new x = e { skip }; f({ skip }, 1)", 2),
            ("com : new x = e { new x = 0 { f({ skip }, 1) } }", 1 + 3), ("com : new x = e { new y = e { f({ skip }, 1) } }", 1 + 3 + 9),
            ("com : new x = e { if x { x := 0 } { skip }; f({ skip }, 1) }", 1 + 1),
            ("com : new x = e { if x { skip } { x := 2 }; f({ skip }, 1) }", 1 + 2),
            ("com : new x = 0 { f({ x := x + 1 }, x) }", 3), ("com : new x = 0 { f({ x := 1 - x }, x) }", 2),
            ("com : new x = 0 { while 1 { x := x + 1; f({ skip }, 1) } }", 3),
            ("com : while 1 { new x = 0 { x := x + 1; f({ skip }, 1) } }", 1),
            ("exp : proc p(a : val) : exp [ e ] [ p(e) ]", 1 + 3), ("exp : proc p(a : exp) : exp [ e + a ] [ p(e) ]", 1 + 3),
        ])

    def test_left_operands_and_arguments_that_wait(self):
        self.assert_counts([
            ("exp : e + e", 1 + 3), ("exp : e + (e + e)", 1 + 3 + 9), ("exp : e + e + e", 1 + 3 + 3), ("exp : (e == 0) + e", 1 + 2),
            ("exp : g(e, e)", 1 + 3 + 1), ("exp : g(e, 0)", 2), ("exp : g(e + e, e)", 1 + 3 + 3 + 1), ("exp : e * g(1, e)", 1 + 3 + 3),
            ("exp : e * g(e, e)", 1 + 3 + 9 + 3), ("exp : g(e, g(e, e))", 1 + 3 + 9 + 3 + 1), ("exp : do { f({ skip }, 1) } [ e ]", 2),
            ("exp : if e [ e ] [ 1 ]", 2), ("exp : e + (do { f({ skip }, e) } [ 1 ])", 1 + 3 + 3),
        ])
        self.assert_counts([("com : h(e, e)", 1 + 1 + 1), ("com : h(e, e); h(e, 1)", 3 + 2)], "e : exp, h(exp, val) : com")
        self.assert_counts([("com : h(e, e)", 1 + 1 + 1)], "e : exp, h(val, exp) : com")

    def test_an_exit_drops_what_waits(self):
        self.assert_counts([
            ("exp : e + (do { block k { new x = e * (e + exit k) { skip } } } [ e ])", 1 + 3 + 9 + 3),
            ("exp : do { block k { new x = e { f({ exit k }, 1) } } } [ e ]", 1 + 3 + 1),
            ("com : if e { block k { new x = e + exit k { skip } }; f({ skip }, 1) } { skip }", 1 + 1 + 1),
            ("com : if e { skip } { block k { new x = e + exit k { skip } }; f({ skip }, 1) }", 1 + 1 + 1),
            ("com : skip; block k { new x = e * exit k { skip } }; f({ skip }, 1)", 1 + 1),
            ("com : f({ skip }, do { block k { new x = e * exit k { skip } } } [ e ])", 1 + 1 + 1),
            ("com : while e { block k { new x = e * exit k { skip } }; f({ skip }, 1) }", 1 + 1 + 1),
            ("exp : do { skip } [ do { block k { new x = e * exit k { skip } } } [ e ] ]", 1 + 1),
            ("com : new y = 1 { block k { new x = e * exit k { skip } }; f({ skip }, 1) }", 1 + 1),
        ])

    def test_an_exit_within_an_argument_leaves_what_waits_outside(self):
        self.assert_counts([
            ("exp : g(e, do { block k { exit k } } [ 1 ])", 1 + 1), ("exp : g(e, do { block k { new x = 1 + exit k { skip } } } [ e ])", 1 + 3 + 1),
            ("exp : e * g(e, do { block k { new x = 1 + exit k { skip } } } [ e ])", 1 + 3 + 9 + 3),
            ("exp : e + (do { block k { new x = e * exit k { skip } } } [ e ])", 1 + 3 + 3),
        ])
        self.assert_counts([
            ("com : h(e, { block k { new x = e * exit k { skip } }; m({ skip }, e) })", 1 + 1 + 1 + 1 + 1),
            ("com : m({ block k { new x = e * exit k { skip } }; h(1, { skip }) }, e)", 1 + 1 + 1 + 1),
        ], "e : exp, h(val, com) : com, m(com, val) : com")

    def test_exactly_400_and_401_situations(self):
        counts = {1: 1, 2: 4, 3: 13, 4: 40, 5: 121, 6: 364}
        for many, count in counts.items():
            self.assertEqual(count_situations(read_piece(many_situations(many))), count)
        # 364 and so many more, one behind another.
        for more in (35, 36, 37, 38):
            calls = "; ".join(["p"] * more)
            text = many_situations(6) + "; " + calls
            piece = read_piece(text.replace("e : exp", "e : exp, p : com"))
            if 364 + more <= 400:
                self.assertEqual(count_situations(piece), 364 + more)
            else:
                self.assertIs(error_of(count_situations, piece), TooLarge)
                self.assertIs(error_of(plays, piece), TooLarge)

    def test_situations_that_do_not_come_up(self):
        text = many_situations(6) + "; stop; " + "; ".join(["p"] * 50)
        self.assertEqual(count_situations(read_piece(text.replace("e : exp", "e : exp, p : com"))), 364)

    def test_the_states_of_the_machine_do_not_count(self):
        piece = read_piece("p : com |- com : " + "; ".join(["p"] * 199))
        self.assertIs(error_of(plays, piece), TooLarge)
        self.assertEqual(count_situations(piece), 199)

    def test_many_pieces(self):
        found = [0, 0, 0]
        made = playful_pieces(150, 5, 11) + playful_pieces(150, 8, 11) + pieces(150, 6, seed=11) + lively_pieces(80, 6, 11)
        for piece in made:
            if error_of_piece(piece) or reference_plays.is_beyond(reference_plays.unfolded(piece, 5000)[0]):
                continue
            try:
                expected = len(reference_plays.situations_of(piece))
            except reference_plays.TooBig:
                expected = None
            with self.subTest(piece):
                if expected is None:
                    self.assertIs(error_of(count_situations, piece), TooLarge)
                else:
                    self.assertEqual(count_situations(piece), expected)
            found[0 if expected is None else 1 if expected < 2 else 2] += 1
        self.assertGreater(found[2], 50)


class ArgumentsStayTest(unittest.TestCase):
    def test_arguments_stay(self):
        piece = piece_of("exp : new x = 0 [ do { f({ x := x + 1 }, x + e) } [ x ] ]")
        moves = read_play(*piece[:2], "? f? f.2? e? e!1 f.2!1 f.1?")
        before = copy.deepcopy((piece, moves))
        for _ in range(3):
            self.assertEqual(reply(piece, moves), ("f", 1, True, 0))
            self.assertEqual(count_situations(piece), 6)
        self.assertEqual((piece, moves), before)

    def test_the_last_move_is_one_of_the_other_side(self):
        for piece in playful_pieces(30, 4, 3):
            if error_of_piece(piece) or error_of(count_situations, piece):
                continue
            for move in letters(*piece[:2]):
                expected = None if move == QUESTION else NotAllowed
                self.assertIs(error_of(reply, piece, [move]), expected)
                self.assertIn(is_other(move), (True, False))


if __name__ == "__main__":
    unittest.main()
