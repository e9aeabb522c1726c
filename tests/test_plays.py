"""[4.2], [4.8]: plays, and the machines that accept them."""

import copy
import unittest

import reference_plays
from doppelganger.automata import accepts, check_machine, count_words
from doppelganger.errors import NotAllowed, TooLarge
from doppelganger.moves import QUESTION, letters, move_text, read_play
from doppelganger.plays import is_play, plays
from doppelganger.reader import read_piece
from doppelganger.situations import count_situations, reply
from generate import leaving_pieces, lively_pieces, pieces, playful_pieces
from helpers import error_of
from machines import plain_least
from reference import error_of_piece
from test_situations import DECLS, TOO_LARGE, long_run, many_situations, piece_of


def small_pieces(seed):
    """Sound pieces that have a machine."""
    made = playful_pieces(120, 4, seed) + playful_pieces(150, 7, seed) + pieces(150, 5, seed=seed)
    made += lively_pieces(60, 6, seed) + leaving_pieces(80, 4, seed)
    return [piece for piece in made if not error_of_piece(piece) and not error_of(plays, piece)]


def word_of(piece, moves):
    found = letters(piece[0], piece[1])
    return [found.index(move) for move in moves]


def texts(piece, found):
    return sorted(" ".join(move_text(piece[0], move) for move in play) for play in found)


class PlaysTest(unittest.TestCase):
    def accepted(self, piece, length):
        """The texts of the accepted words up to a length."""
        machine = plays(piece)
        found, waiting = [], [[]]
        while waiting:
            word = waiting.pop()
            if accepts(machine, word):
                found.append([letters(*piece[:2])[letter] for letter in word])
            if len(word) < length:
                waiting += [word + [letter] for letter in range(machine[0]) if self.goes_on(machine, word + [letter])]
        return texts(piece, found)

    def goes_on(self, machine, word):
        state = 0 if machine[1] else -1
        for letter in word:
            state = machine[1][state][letter] if state >= 0 else -1
        return state >= 0

    def assert_plays(self, text, expected, length=6, decls=DECLS):
        with self.subTest(text):
            self.assertEqual(self.accepted(piece_of(text, decls), length), sorted(expected))

    def test_pieces_with_few_plays(self):
        self.assert_plays("com : skip", ["? !0"])
        self.assert_plays("com : fault", ["? !!"])
        self.assert_plays("exp : 1 + 1", ["? !2"])
        self.assert_plays("exp : e", ["? e?"] + [f"? e? e!{value} !{value}" for value in range(3)])
        self.assert_plays("exp : if e [ fault ] [ stop ]", ["? e?", "? e? e!1 !!", "? e? e!2 !!"])
        self.assert_plays("com : f({ fault }, 2)", ["? f?", "? f? f!0 !0", "? f? f.1? !!", "? f? f.2? f.2!2"], 4)
        self.assert_plays("exp : g(1, 1)", ["? g?4"] + [f"? g?4 g!{value} !{value}" for value in range(3)])
        self.assert_plays("com : block k { f({ exit k }, 1) }; fault", ["? f?", "? f? f!0 !!", "? f? f.1? !!", "? f? f.2? f.2!1"], 4)

    def test_pieces_that_never_make_a_move(self):
        for text in ["com : stop", "exp : stop", "com : while 1 { skip }", "com : stop; fault", "exp : stop + e"]:
            piece = piece_of(text)
            self.assertEqual(plays(piece), (len(letters(*piece[:2])), (), ()))
            self.assertEqual(count_situations(piece), 0)
            self.assertIs(is_play(piece, [QUESTION]), False)
        self.assertEqual(plays(read_piece("|- com : stop")), (3, (), ()))

    def test_machines_accept_just_the_plays(self):
        count = 0
        for piece in small_pieces(21):
            machine = plays(piece)
            self.assertIsNone(check_machine(machine))
            self.assertEqual(machine[0], len(letters(*piece[:2])))
            length = 6 if count_situations(piece) < 30 else 4
            found = reference_plays.plays_of(piece, length)
            with self.subTest(piece):
                for at in range(length + 1):
                    self.assertEqual(count_words(machine, at), sum(len(play) == at for play in found))
                for play in found:
                    self.assertTrue(accepts(machine, word_of(piece, play)))
            count += len(found)
        self.assertGreater(count, 1500)

    def test_machines_are_least(self):
        for piece in small_pieces(22)[::3]:
            machine = plays(piece)
            if len(machine[1]) < 60:
                self.assertEqual(plain_least(machine), machine)

    def test_machines_and_replies(self):
        """Along the words of a machine each reply is the only move of the piece that is accepted."""
        for piece in small_pieces(23)[::4]:
            machine, signs = plays(piece), letters(*piece[:2])
            waiting = [[]] if machine[1] else []
            while waiting and len(waiting[0]) < 8 and len(waiting) < 60:
                word = waiting.pop(0)
                for letter in range(machine[0]):
                    if self.goes_on(machine, word + [letter]):
                        moves = [signs[each] for each in word + [letter]]
                        answers = [each for each in range(machine[0]) if accepts(machine, word + [letter, each])]
                        self.assertEqual([signs[each] for each in answers], [reply(piece, moves)])
                        waiting.append(word + [letter] + answers)

    def test_the_same_plays_have_the_same_machine(self):
        for one, other in [("com : f({ skip }, 1); skip", "com : skip; f({ skip; skip }, 0 + 1)"),
                           ("exp : e + e", "exp : new x = e [ x + e ]"), ("exp : e * 0", "exp : do { new x = e { skip } } [ 0 ]"),
                           ("com : while 1 { skip }", "com : stop"), ("exp : if e [ 1 ] [ 1 ]", "exp : new x = e [ 1 ]"),
                           ("com : proc p(a : com) : com { a; a } { p({ f({ skip }, 1) }) }",
                            "com : f({ skip }, 1); f({ skip }, 1)")]:
            self.assertEqual(plays(piece_of(one)), plays(piece_of(other)))

    def test_errors_in_their_order(self):
        large = read_piece(TOO_LARGE)
        beyond = read_piece("e : exp, f(com) : com |- com : f({ block k { f({ exit k }) } }); " + many_situations(7).split(" |- com : ")[1])
        for function in (plays, count_situations):
            self.assertIs(error_of(function, large), TooLarge)
            self.assertIs(error_of(function, beyond), NotAllowed)
            self.assertIs(error_of(function, read_piece(many_situations(7))), TooLarge)
        leaving = read_piece("f(com) : com |- com : f({ block k { f({ exit k }) } })")
        self.assertIs(error_of(plays, (leaving[0], "com", ("seq", long_run(2001), leaving[2]))), NotAllowed)

    def test_exactly_400_and_401_states(self):
        for count in (10, 100, 197, 198):
            self.assertEqual(len(plays(read_piece("p : com |- com : " + "; ".join(["p"] * count)))[1]), 2 * count + 3)
        self.assertIs(error_of(plays, read_piece("p : com |- com : " + "; ".join(["p"] * 199))), TooLarge)
        for count in (20, 197):
            piece = read_piece("e : exp, p : com |- com : " + "p; " * count + "if e { skip } { fault }")
            self.assertEqual(len(plays(piece)[1]), 2 * count + 6)
        # More than 400 states before they are joined.
        piece = read_piece(many_situations(6))
        self.assertEqual(count_situations(piece), 364)
        self.assertEqual(len(plays(piece)[1]), 2 * 6 + 3)

    def test_arguments_stay(self):
        for piece in small_pieces(24)[::5]:
            before = copy.deepcopy(piece)
            self.assertEqual(plays(piece), plays(piece))
            self.assertEqual(piece, before)


class IsPlayTest(unittest.TestCase):
    def test_beginnings_and_other_ends(self):
        count = 0
        for piece in small_pieces(25):
            found = reference_plays.plays_of(piece, 7)
            for play in list(found)[:25]:
                moves = list(play)
                for length in range(len(moves) + 1):
                    expected = length > 0 and length % 2 == 0
                    self.assertIs(is_play(piece, moves[:length]), expected)
                for letter in letters(*piece[:2]):
                    other = moves[:-1] + [letter]
                    with self.subTest(piece=piece, moves=other):
                        self.assertIs(is_play(piece, other), tuple(other) in found)
                    self.assertIs(is_play(piece, moves + [letter]), False)
                count += 1
            self.assertIs(is_play(piece, []), False)
        self.assertGreater(count, 800)

    def test_moves_that_do_not_fit_within(self):
        piece = piece_of("exp : new x = 0 [ do { f({ x := x + 1 }, x) } [ x ] ]")
        for text, expected in [
            ("? f? f.1? f.1!0 f!0 !1", True), ("? f? f.1? f.1!0 f!0 !0", False), ("? f? f.1? f.2!0 f!0 !1", False),
            ("? f? f.2? f.2!0 f!0 !0", True), ("? f? f.2? f.2!1 f!0 !0", False), ("? f? f!0 !0 ? f?", False), ("? f? ? f?", False),
            ("? f? f.1? f.1!0 f.1!0 f.1!0", False), ("f? f? f.1? f.1!0", False), ("? e? e!0 !0", False), ("? !! ? !!", False),
        ]:
            with self.subTest(text):
                self.assertIs(is_play(piece, read_play(*piece[:2], text)), expected)
        for moves in [[QUESTION, ("f", 0, False, 1)], [QUESTION, ("h", 0, False, 0)], [QUESTION, ("f", 0, False, 0), ("f", 3, False, 0),
                      ("f", 3, True, 0)], [QUESTION, ("f", 0, False, 0), ("f", 0, True, 1), ("", 0, True, 0)]]:
            self.assertIs(is_play(piece, moves), False)

    def test_40_and_41_moves(self):
        piece = read_piece("p : com |- com : while 1 { p }")
        moves = [QUESTION] + read_play(piece[0], "com", "p? p!0") * 30
        for count in range(1, 61):
            if count > 40:
                self.assertIs(error_of(is_play, piece, moves[:count]), NotAllowed)
            else:
                self.assertIs(is_play(piece, moves[:count]), count % 2 == 0)
        self.assertIs(error_of(is_play, piece, [QUESTION] * 41), NotAllowed)
        self.assertIs(is_play(piece, [QUESTION] * 40), False)

    def test_errors(self):
        large = read_piece(TOO_LARGE)
        beyond = read_piece("f(com) : com |- com : f({ block k { f({ exit k }) } })")
        for moves in ([], [QUESTION], [QUESTION] * 41):
            self.assertIs(error_of(is_play, large, moves), TooLarge)
            self.assertIs(error_of(is_play, beyond, moves), NotAllowed)

    def test_runs_that_are_too_long(self):
        piece = (piece_of("com : skip")[0], "com", ("if", ("call", "e", ()), long_run(2001), ("fault",)))
        self.assertIs(is_play(piece, read_play(*piece[:2], "? e? e!0 !!")), True)
        for text in ["? e? e!1 !0", "? e? e!1 !!", "? e? e!2 e? e!0 !0", "? e? e!1 e? e!0"]:
            self.assertIs(error_of(is_play, piece, read_play(*piece[:2], text)), TooLarge)
        # What does not fit stands ahead of the run that is too long.
        for text in ["? !! e!1 !0", "? f? e!1 !0", "? e? f!0 !0", "e? e? e!1 !0", "? e? f.1? !0"]:
            self.assertIs(is_play(piece, read_play(*piece[:2], text)), False)
        long = (piece[0], "com", long_run(2001))
        self.assertIs(error_of(is_play, long, read_play(*piece[:2], "? !0")), TooLarge)
        self.assertIs(is_play(long, read_play(*piece[:2], "!0 !0")), False)
        self.assertIs(is_play(long, []), False)

    def test_it_does_not_matter_how_many_situations_there_are(self):
        piece = read_piece(many_situations(7))
        self.assertIs(error_of(plays, piece), TooLarge)
        self.assertIs(is_play(piece, read_play(*piece[:2], "?" + " e? e!1" * 7 + " !0")), True)
        self.assertIs(is_play(piece, read_play(*piece[:2], "?" + " e? e!1" * 7 + " e?")), False)

    def test_arguments_stay(self):
        piece = piece_of("exp : e + e")
        moves = read_play(*piece[:2], "? e? e!1 e? e!1 !2")
        before = copy.deepcopy((piece, moves))
        for _ in range(2):
            self.assertIs(is_play(piece, moves), True)
        self.assertEqual((piece, moves), before)


if __name__ == "__main__":
    unittest.main()
