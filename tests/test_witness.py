"""[5.4] to [5.6], [5.9]: plays that are possible, and contexts that show them."""

import copy
import random
import unittest

import reference_plays
from doppelganger.contexts import fill
from doppelganger.errors import BadForm, BadKind, BadName, NotAllowed, Same, TooLarge
from doppelganger.moves import FAULT, QUESTION, is_other, letters, read_play
from doppelganger.names import check_piece
from doppelganger.plays import is_play
from doppelganger.reader import read_piece
from doppelganger.runs import run
from doppelganger.same import difference, same
from doppelganger.terms import nodes
from doppelganger.witness import context_of, is_possible, witness
from generate import leaving_pieces, lively_pieces, pieces, playful_pieces
from helpers import error_of
from reference import error_of_piece
from test_moves import DECLS as MANY_DECLS
from test_same import pairs_of, with_machine
from test_situations import TOO_LARGE, long_run, piece_of

DECLS = "e : exp, f(com, exp) : com, g(val, val) : exp"
WIDE = read_piece(f"{DECLS} |- com : skip")[0]


def possible(decls, kind, play):
    """[5.4], written down once more: what is open is a list of questions."""
    if len(play) % 2 or not play or play[0] != QUESTION:
        return False
    opened = [QUESTION]
    for at, move in enumerate(play):
        if move not in letters(decls, kind) or is_other(move) != (at % 2 == 0):
            return False
        if at == 0:
            continue
        if not opened:
            return False
        if move == FAULT:
            opened = []
        elif at % 2 and not move[2]:
            opened.append(move)
        elif at % 2:
            places = [place for place, each in enumerate(opened) if each[:2] == move[:2]]
            if not places:
                return False
            del opened[places[-1]:]
        else:
            if opened[-1][0] != move[0] or opened[-1][1] != 0 or move[0] == "":
                return False
            if move[2]:
                opened.pop()
            else:
                opened.append(move)
    return True


def random_play(decls, kind, length, chance):
    """A possible list of so many moves, or None."""
    play = [QUESTION]
    signs = letters(decls, kind)
    while len(play) < length:
        if len(play) % 2:
            last = len(play) == length - 1
            ends = [FAULT] + [("", 0, True, value) for value in range(3)]
            fitting = [move for move in signs if possible(decls, kind, play + [move]) and (last or move not in ends)]
        else:
            calls = [move for move in signs if is_other(move)]
            fitting = [move for move in calls if possible(decls, kind, play + [move, FAULT])]
        if not fitting:
            return None
        play.append(chance.choice(fitting))
    return play


def play_of(text, decls=WIDE, kind="com"):
    return read_play(decls, kind, text)


class PossibleTest(unittest.TestCase):
    def assert_possible(self, expected, texts, decls=WIDE, kind="com"):
        for text in texts:
            with self.subTest(text):
                self.assertIs(is_possible(decls, kind, play_of(text, decls, kind)), expected)

    def test_possible_lists(self):
        self.assert_possible(True, [
            "? !0", "? !!", "? e?", "? f?", "? g?0", "? g?8", "? e? e!0 !0", "? e? e!2 !!", "? f? f.1? f.1!0", "? f? f.1? !!",
            "? f? f.1? !0", "? f? f.1? f?", "? f? f.1? f? f.1? f.1!0", "? f? f.1? f? f.1? f.1!0 f.2? f.2!1", "? f? f.2? f.2!2 f!0 !0",
            "? f? f.1? f? f.2? f.1!0", "? f? f.1? f? f.2? f.1!0 f!0 !0", "? f? f.1? f? f.2? f.1!0 f.2? !0", "? e? e!0 e? e!1 e?",
            "? f? f.1? f? f.2? f? f.1? f.2!0 f.2? f.2!2", "? f? f.1? f? f.2? f? f.1? f.2!0 f!0 f.1!0", "? g?3 g!1 g?2 g!2 !0",
        ])
        self.assert_possible(True, ["? !0", "? !1", "? !2", "? !!", "? f? f.1? !2"], kind="exp")

    def test_lists_that_are_not_possible(self):
        self.assert_possible(False, [
            "", "?", "!0", "!!", "e?", "? ?", "? e!0", "? f.1?", "? f.1!0", "? e? e!0", "? f? f.1?", "e? e!0", "? !0 ?", "? !0 ? !0",
            "? !! ? !!", "? !0 e!0 !0", "? !! e!0 !0", "? e? f!0 !0", "? e? ? !0", "? e? e? !0", "? e? !0 !0", "? f? f.1!0 !0",
            "? f? f.1? f.2!0", "? f? f.1? f.1!0 f.1!0 f.1!0", "? f? f.1? f.1!0 f!0 f.1!0", "? f? f!0 f.1!0", "? e? e!0 e!0 !0",
            "? f? f.1? e? f.1? f.1!0", "? f? f.1? e? f!0 f.1!0", "? f? f.1? f? f.2? f.1!0 f!0 f.2!0", "? f? f!0 !0 f.1? f.1!0",
            "? f? f.1? f? f.2? f.1!0 f.2? f.1!0", "? e? e!0 !0 e!0 !0", "? f? f!0 !0 f!0 !!", "? g?3 f!0 !0", "? g?3 f.1? f.1!0",
        ])

    def test_letters_that_there_are_not(self):
        for move in [("h", 0, False, 0), ("e", 0, False, 1), ("e", 1, False, 0), ("g", 0, False, 9), ("g", 1, False, 0), ("", 0, True, 1),
                     ("f", 3, False, 0), ("f", 0, False, 1), ("", 1, True, 0), ("f", 1, True, 1), ("e", 0, True, 0), ("", 0, False, 1)]:
            self.assertIs(is_possible(WIDE, "com", [QUESTION, move]), False)
        for move in [("e", 0, True, 3), ("e", 1, False, 0), ("h", 0, True, 0), ("e", 0, True, -1)]:
            self.assertIs(is_possible(WIDE, "com", [QUESTION, ("e", 0, False, 0), move, FAULT]), False)
        self.assertIs(is_possible(WIDE, "exp", [QUESTION, ("", 0, True, 3)]), False)
        self.assertIs(is_possible((), "com", [("", 0, False, 1), FAULT]), False)

    def test_one_move_exchanged_left_out_or_put_in(self):
        chance = random.Random("possible")
        found = [0, 0]
        for decls in MANY_DECLS[::6] + [WIDE]:
            for kind in ("com", "exp"):
                for length in (2, 4, 6, 10):
                    play = random_play(decls, kind, length, chance)
                    if play is None:
                        continue
                    self.assertIs(is_possible(decls, kind, play), True)
                    for at in range(len(play)):
                        move = chance.choice(letters(decls, kind))
                        for other in (play[:at] + play[at + 1:], play[:at] + [move] + play[at:], play[:at] + [move] + play[at + 1:],
                                      play[:at], play[:at] + play[at:][::-1], play + [move], play + play[at:]):
                            before = copy.deepcopy(other)
                            expected = possible(decls, kind, other)
                            self.assertIs(is_possible(decls, kind, other), expected)
                            self.assertEqual(other, before)
                            found[expected] += 1
        self.assertGreater(min(found), 300)

    def test_plays_of_pieces_are_possible(self):
        for piece in with_machine(playful_pieces(80, 5, 41) + leaving_pieces(80, 4, 41)):
            for play in list(reference_plays.plays_of(piece, 6))[:40]:
                self.assertIs(is_possible(piece[0], piece[1], list(play)), True)

    def test_long_lists(self):
        self.assertIs(is_possible(WIDE, "com", play_of("?" + " e? e!1" * 19 + " !0")), True)
        self.assertIs(is_possible(WIDE, "com", play_of("?" + " e? e!1" * 10) * 3), False)


class ContextOfTest(unittest.TestCase):
    def assert_context(self, decls, kind, play):
        """A context of a play, which is as it has to be."""
        before = copy.deepcopy((decls, play))
        context = context_of(decls, kind, play)
        self.assertEqual((decls, play), before)
        self.assertIsNone(check_piece(context))
        self.assertEqual(context[:2], ((("hole", (), kind),), "com"))
        found = nodes(context[2], "com")
        self.assertLessEqual(len(found), 300)
        levels = [level for _, term, level in found if term[:2] == ("call", "hole")]
        self.assertEqual(len(levels), 1)
        self.assertLessEqual(levels[0], 12)
        # It is bound by the declaration alone.
        self.assertEqual([term for _, term, _ in found if term[0] in ("new", "proc", "block") and term[1] == "hole"], [])
        self.assertEqual(run(fill(context, (decls, kind, ("stop",)))), ("never", 0, 0))
        self.assertEqual(run(fill(context, (decls, kind, ("fault",))))[0], "faulted")
        return context

    def assert_shows(self, piece, play):
        """A context of a play shows whether the piece has it; returns that, or None if something is too large."""
        context = self.assert_context(piece[0], piece[1], play)
        expected = reference_plays.shows(piece, play)
        filled = fill(context, piece)
        if error_of(run, filled) is TooLarge:
            return None
        with self.subTest(piece=piece, play=play):
            self.assertEqual(run(filled)[0], "faulted" if expected else "never")
        return expected

    def other_plays(self, piece, play, chance):
        """Plays that are like a play of a piece, up to some place."""
        signs = letters(piece[0], piece[1])
        made = [play[:-1] + [FAULT]] + [play[:-1] + [move] for move in signs]
        made += [play[:length] for length in range(2, len(play), 2)]
        for _ in range(4):
            at = chance.randrange(len(play))
            made.append(play[:at] + [chance.choice(signs)] + play[at + 1:])
        longer = [play[:-1] + [random_move, other, FAULT] for random_move in signs for other in signs]
        made += chance.sample(longer, min(10, len(longer)))
        return [each for each in made if len(each) <= 12 and possible(piece[0], piece[1], each)]

    def test_pieces_and_plays(self):
        chance = random.Random("shown")
        found = {True: 0, False: 0, None: 0}
        made = playful_pieces(90, 3, 42) + playful_pieces(90, 6, 42) + leaving_pieces(90, 4, 42) + lively_pieces(40, 5, 42)
        made += pieces(60, 5, seed=42)
        for piece in made:
            if error_of_piece(piece) or "hole" in [decl[0] for decl in piece[0]] or len(nodes(piece[2], piece[1])) > 100:
                continue
            play = reference_plays.walk(piece, chance.choice([2, 6, 10, 12]), chance)
            plays = [play] + self.other_plays(piece, play, chance) if play else []
            plays.append(random_play(piece[0], piece[1], chance.choice([2, 4, 6, 12]), chance))
            for each in plays:
                if each is not None:
                    found[self.assert_shows(piece, each)] += 1
        self.assertGreater(found[True], 500)
        self.assertGreater(found[False], 500)
        self.assertLess(found[None], 10)

    def test_pieces_with_each_move(self):
        for text, kind, play in [
            ("skip", "com", "? !0"), ("fault", "com", "? !!"), ("1 + 1", "exp", "? !2"), ("e * e", "exp", "? e? e!2 e? e!2 !1"),
            ("g(e, 2)", "exp", "? e? e!1 g?7 g!0 !0"), ("g(2, 0) + g(0, 2)", "exp", "? g?2 g!2 g?6 g!1 !0"),
            ("new x = 0 { f({ x := x + 1 }, x) }", "com", "? f? f.2? f.2!0 f.1? f.1!0 f.2? f.2!1 f.1? f.1!0 f.2? f.2!2"),
            ("f({ f({ fault }, 1) }, e)", "com", "? f? f.2? e? e!2 f.2!2 f.1? f? f.2? f.2!1 f.1? !!"),
            ("block k { f({ f({ skip }, exit k) }, 2) }; fault", "com", "? f? f.1? f? f.2? !!"),
            ("block k { f({ block j { f({ skip }, exit j) } }, 2) }; fault", "com", "? f? f.1? f? f.2? f.1!0 f!0 !!"),
            ("f({ skip }, 0); f({ skip }, 1); f({ skip }, 2)", "com", "? f? f!0 f? f.2? f.2!1 f!0 f? f.2? f.2!2 f!0 !0"),
        ]:
            piece = piece_of(f"{kind} : {text}")
            moves = read_play(piece[0], kind, play)
            for length in range(2, len(moves) + 1, 2):
                self.assertIs(self.assert_shows(piece, moves[:length]), True)
                for move in letters(piece[0], kind):
                    other = moves[:length - 1] + [move]
                    if possible(piece[0], kind, other) and move != moves[length - 1]:
                        # A fault counts as having the play.
                        self.assertIs(self.assert_shows(piece, other), moves[length - 1] == FAULT)

    def test_a_fault_on_the_way(self):
        piece = piece_of("com : new x = e { if x == 1 { fault } { f({ skip }, x) } }")
        for play, expected in [("? e? e!1 f? f!0 !0", True), ("? e? e!2 f? f!0 !0", True), ("? e? e!2 f? f.2? f.2!1 f!0 !0", False),
                               ("? f? f!0 e? e!1 !!", False), ("? e? e!1 e?", True), ("? e? e!2 !!", False)]:
            self.assertIs(self.assert_shows(piece, play_of(play)), expected)
        # What faults behind another move than that of the play has never ended before.
        self.assertIs(self.assert_shows(piece_of("com : f({ skip }, 1); fault"), play_of("? e? e!1 !!")), False)

    def test_pieces_beyond_the_border(self):
        piece = piece_of("com : f({ block k { f({ exit k }, 1) } }, 2)")
        self.assertIs(self.assert_shows(piece, play_of("? f? f.1? f? f.1? f.1!0 f!0 !0")), True)
        self.assertIs(self.assert_shows(piece, play_of("? f? f.1? f? f.1? f.1!0 f!0 f.1!0")), False)
        self.assertIs(self.assert_shows(piece, play_of("? f? f.1? f? f.1? f.1!0 f.2? f.2!2")), True)

    def test_12_and_14_moves(self):
        piece = piece_of("com : while 1 { f({ skip }, 1) }")
        for count in range(1, 6):
            self.assertIs(self.assert_shows(piece, play_of("?" + " f? f.2?" * count + " f?")), False)
            self.assertIs(self.assert_shows(piece, play_of("?" + " f? f!0" * count + " f?")), True)
        for count in (6, 7, 12):
            self.assertIs(error_of(context_of, WIDE, "com", play_of("?" + " f? f!0" * count + " f?")), TooLarge)

    def test_many_plays_of_12_moves(self):
        chance = random.Random("twelve")
        most = 0
        for decls in MANY_DECLS + [WIDE, (("a", ("exp", "exp"), "exp"), ("b", ("val", "val"), "exp"), ("c", ("exp", "val"), "exp"))]:
            for kind in ("com", "exp"):
                play = random_play(decls, kind, 12, chance)
                if play is not None:
                    context = self.assert_context(decls, kind, play)
                    most = max(most, len(nodes(context[2], "com")))
        self.assertGreater(most, 100)

    def test_the_largest_contexts(self):
        value = "e : exp, f(exp, val) : exp, g(val, val) : exp"
        for text in ["?" + " g?8 g!2" * 5 + " g?8", "?" + " f?2 f.1? f.1!2 f!2" * 2 + " f?2 f.1? f.1!2", "? g?8 g!2 f?1 f.1? f.1!2 f.1? f.1!0 f!1 g?7 g!0 !1",
                     "? f?1 f.1? g?5 g!2 f?2 f.1? g?7 g!1 f.1!2 f.1? !2", "? f?1 f.1? f?2 f.1? f?0 f.1? f?1 f.1? f?2 f.1? f?0"]:
            decls = read_piece(f"{value} |- exp : 1")[0]
            self.assert_context(decls, "exp", read_play(decls, "exp", text))

    def test_declared_names_may_be_any(self):
        for names in [("a", "b", "c"), ("d", "e", "f"), ("g", "h", "i"), ("a", "e", "i"), ("hol", "holf", "xxxx"), ("b", "f", "g")]:
            decls = tuple((name, ("com", "exp"), "com") for name in names)
            for name in names:
                term = ("call", name, (("com", ("skip",)), ("exp", ("num", 1))))
                for text, expected in [(f"? {name}? {name}.2? {name}.2!1 {name}!0 !0", True), (f"? {name}? {name}.2? {name}.2!0", False)]:
                    self.assertIs(self.assert_shows((decls, "com", term), read_play(decls, "com", text)), expected)

    def test_errors_in_their_order(self):
        good, bad = [QUESTION, FAULT], [QUESTION]
        long = play_of("?" + " e? e!1" * 6 + " !0")
        unsorted_decls = (("f", (), "com"), ("e", (), "exp"))
        hole = (("e", (), "exp"), ("hole", ("com",), "com"))
        for decls, kind, play, error in [
            (unsorted_decls, "com", good, NotAllowed), ((("e", (), "val"),), "com", bad, NotAllowed), (WIDE, "val", good, NotAllowed),
            (WIDE, "", bad, NotAllowed), ((("e", ("com",) * 3, "com"),), "com", good, NotAllowed), ((("e", (), "com"),) * 2, "com", good, NotAllowed),
            (WIDE + (("z", (), "com"),), "com", good, NotAllowed), ((("skip", (), "com"),), "com", good, NotAllowed),
            ((("E", (), "com"),), "com", long, NotAllowed), ((("e", ("int",), "com"),), "com", long, NotAllowed),
            (hole[::-1], "com", good, NotAllowed), (hole, "", good, NotAllowed), (hole, "com", good, BadName), (hole, "com", bad, BadName),
            (hole, "com", long, BadName), ((("hole", (), "com"),), "com", good, BadName), (WIDE, "com", bad, BadForm), (WIDE, "com", [], BadForm),
            (WIDE, "com", long + long, BadForm), (WIDE, "com", long[:-1], BadForm), (WIDE, "com", long[:-1] + [("", 0, True, 1)], BadForm),
            (WIDE, "com", long, TooLarge), (WIDE, "exp", long, TooLarge), (WIDE, "com", good, None), (WIDE, "exp", good, None),
            ((), "com", [QUESTION, ("x", 0, False, 0)], BadForm), ((), "com", [QUESTION, ("", 0, True, 1)], BadForm),
        ]:
            with self.subTest(decls=decls, kind=kind, play=play):
                self.assertIs(error_of(context_of, decls, kind, play), error)


class WitnessTest(unittest.TestCase):
    def assert_witness(self, first, second):
        """The context tells two pieces apart; returns which one is faulted."""
        context = witness(first, second)
        self.assertIsNone(check_piece(context))
        self.assertEqual(context[:2], ((("hole", (), first[1]),), "com"))
        self.assertEqual(len([term for _, term, _ in nodes(context[2], "com") if term[:2] == ("call", "hole")]), 1)
        found = [run(fill(context, piece))[0] for piece in (first, second)]
        with self.subTest(first=first, second=second):
            self.assertEqual(sorted(found), ["faulted", "never"])
        return found.index("faulted")

    def test_differences_of_each_sort(self):
        for one, other, faulted in [
            ("exp : 1", "exp : 2", 0), ("com : skip", "com : stop", 0), ("com : stop", "com : skip", 1), ("exp : e", "exp : 0", 1),
            ("com : fault", "com : stop", 0), ("com : stop", "com : fault", 1), ("com : skip", "com : fault", 1), ("com : fault", "com : skip", 0),
            ("exp : e", "exp : fault", 1), ("exp : fault", "exp : e", 0), ("exp : g(1, 0)", "exp : g(0, 1)", 0),
            ("com : f({ fault }, 1)", "com : f({ skip }, 1)", 0), ("com : f({ fault }, 1)", "com : f({ stop }, 1)", 0),
            ("com : f({ skip }, 1)", "com : f({ skip }, fault)", 1), ("com : f({ skip }, 1)", "com : f({ skip }, e)", 1),
            ("exp : e + e", "exp : e * 2", 1), ("com : f({ skip }, 1); fault", "com : f({ skip }, 1)", 0),
            ("com : f({ skip }, 1); f({ skip }, 1); stop", "com : f({ skip }, 1); f({ skip }, 1)", 1),
            ("com : block k { f({ exit k }, 1) }", "com : f({ skip }, 1)", 0), ("com : block k { f({ exit k }, 1) }", "com : f({ stop }, 1)", 0),
        ]:
            first, second = piece_of(one), piece_of(other)
            self.assertEqual(self.assert_witness(first, second), faulted)
            self.assertEqual(self.assert_witness(second, first), 1 - faulted)

    def test_pairs(self):
        made = with_machine(playful_pieces(150, 3, 43) + pieces(150, 4, seed=43) + lively_pieces(60, 4, 43) + leaving_pieces(40, 3, 43))
        made = [piece for piece in made if len(piece[0]) < 2 or piece[0][0][0] == "f"]
        count = 0
        for first, second in pairs_of(made, 12):
            if "hole" in [decl[0] for decl in first[0]]:
                self.assertIs(error_of(witness, first, second), BadName)
            elif same(first, second):
                self.assertIs(error_of(witness, first, second), Same)
            elif len(difference(first, second)[0]) > 12:
                self.assertIs(error_of(witness, first, second), TooLarge)
            else:
                faulted = self.assert_witness(first, second)
                play, is_first = difference(first, second)
                other = second if is_first else first
                self.assertEqual(faulted == 0, is_first != is_play(other, play[:-1] + [FAULT]))
                count += 1
        self.assertGreater(count, 150)

    def test_differences_of_many_moves(self):
        for count in (18, 19, 20, 21, 60):
            calls = "; ".join(["p"] * count)
            first, second = piece_of(f"com : {calls}", "p : com"), piece_of(f"com : {calls}; fault", "p : com")
            self.assertEqual(len(difference(first, second)[0]), 2 * count + 2)
            self.assertIs(error_of(witness, first, second), TooLarge)
            self.assertIs(error_of(witness, second, first), TooLarge)

    def test_differences_of_12_and_14_moves(self):
        for count in (4, 5, 6, 7):
            calls = "; ".join(["p"] * count)
            first, second = piece_of(f"com : {calls}", "p : com"), piece_of(f"com : {calls}; p", "p : com")
            self.assertEqual(len(difference(first, second)[0]), 2 * count + 2)
            if count > 5:
                self.assertIs(error_of(witness, first, second), TooLarge)
                self.assertIs(error_of(witness, second, first), TooLarge)
            else:
                self.assert_witness(first, second)
                self.assert_witness(second, first)

    def test_errors_in_their_order(self):
        large = read_piece(TOO_LARGE)
        beyond = read_piece("f(com) : com |- com : f({ block k { f({ exit k }) } })")
        fine = read_piece("f(com) : com |- com : skip")
        long = (fine[0], "com", long_run(2001))
        holes = [read_piece(f"hole : com, p : com |- com : {text}") for text in ("hole", "hole; skip", "p")]
        holes.append((holes[0][0], "com", long[2]))
        for first, second, error in [
            (large, beyond, TooLarge), (beyond, large, NotAllowed), (fine, beyond, NotAllowed), (fine, long, TooLarge),
            (fine, fine, Same), (fine, read_piece("|- com : stop"), BadKind), (holes[0], holes[1], BadName), (holes[0], holes[2], BadName),
            (holes[3], holes[3], BadName), (holes[0], fine, BadKind), (fine, holes[3], BadKind), (holes[3], holes[0], BadName),
        ]:
            self.assertIs(error_of(witness, first, second), error)

    def test_arguments_stay(self):
        first, second = piece_of("exp : e + e"), piece_of("exp : e * 2")
        before = copy.deepcopy((first, second))
        self.assertEqual(witness(first, second), witness(first, second))
        self.assertEqual((first, second), before)


if __name__ == "__main__":
    unittest.main()
