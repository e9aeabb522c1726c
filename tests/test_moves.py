"""[4.1], [4.3], [4.10]: moves, letters and their texts."""

import copy
import unittest

from doppelganger.errors import BadForm
from doppelganger.moves import FAULT, QUESTION, is_other, letters, move_text, read_play
from helpers import error_of

TYPES = [()] + [(one,) for one in ("com", "exp", "val")] + [
    (one, two) for one in ("com", "exp", "val") for two in ("com", "exp", "val")
]
SIGNATURES = [(types, result) for types in TYPES for result in ("com", "exp")]
DECLS = [()] + [(("f", types, result),) for types, result in SIGNATURES] + [
    (("a", *one), ("b", *other)) for one in SIGNATURES for other in SIGNATURES[::3]
] + [(("c", ("val", "exp"), "com"), ("d", (), "exp"), ("e", ("com", "val"), "exp"))]


def letters_of(name, types, result):
    """The letters of a declaration as pairs (move, text)."""
    found = []
    values = 3 ** sum(each == "val" for each in types)
    for value in range(values):
        found.append(((name, 0, False, value), f"{name}?{value}" if values > 1 else f"{name}?"))
    for value in range(3 if result == "exp" else 1):
        found.append(((name, 0, True, value), f"{name}!{value}"))
    for at, each in enumerate(types, 1):
        if each != "val":
            found.append(((name, at, False, 0), f"{name}.{at}?"))
            for value in range(3 if each == "exp" else 1):
                found.append(((name, at, True, value), f"{name}.{at}!{value}"))
    return found


def all_letters(decls, kind):
    found = [(("", 0, False, 0), "?")]
    found += [(("", 0, True, value), f"!{value}") for value in range(3 if kind == "exp" else 1)]
    found.append((("!",), "!!"))
    for decl in decls:
        found += letters_of(*decl)
    return found


class LettersTest(unittest.TestCase):
    def test_constants(self):
        self.assertEqual(QUESTION, ("", 0, False, 0))
        self.assertEqual(FAULT, ("!",))

    def test_all_declarations(self):
        for decls in DECLS:
            for kind in ("com", "exp"):
                with self.subTest(decls=decls, kind=kind):
                    found = letters(decls, kind)
                    self.assertEqual(found, [move for move, _ in all_letters(decls, kind)])
                    for move in found:
                        if move != FAULT:
                            self.assertEqual([part.__class__ for part in move], [str, int, bool, int])

    def test_examples(self):
        self.assertEqual(letters((), "com"), [QUESTION, ("", 0, True, 0), FAULT])
        self.assertEqual(letters((), "exp"), [QUESTION, ("", 0, True, 0), ("", 0, True, 1), ("", 0, True, 2), FAULT])
        self.assertEqual(letters((("f", ("exp", "val"), "com"),), "com")[3:], [
            ("f", 0, False, 0), ("f", 0, False, 1), ("f", 0, False, 2), ("f", 0, True, 0), ("f", 1, False, 0),
            ("f", 1, True, 0), ("f", 1, True, 1), ("f", 1, True, 2),
        ])
        self.assertEqual(len(letters((("f", ("val", "val"), "exp"),), "exp")), 5 + 9 + 3)

    def test_lists_may_be_changed(self):
        found = letters((), "com")
        found.append(FAULT)
        found[0] = FAULT
        self.assertEqual(letters((), "com"), [QUESTION, ("", 0, True, 0), FAULT])

    def test_whose_moves_they_are(self):
        for decls in DECLS:
            for kind in ("com", "exp"):
                for move in letters(decls, kind):
                    if move == FAULT:
                        expected = False
                    elif move[0] == "" or move[1] > 0:
                        expected = not move[2]
                    else:
                        expected = move[2]
                    self.assertIs(is_other(move), expected)
        for move in [QUESTION, ("f", 0, True, 0), ("f", 0, True, 2), ("f", 1, False, 0), ("f", 2, False, 0)]:
            self.assertIs(is_other(move), True)
        for move in [FAULT, ("", 0, True, 0), ("f", 0, False, 0), ("f", 0, False, 8), ("f", 1, True, 0), ("f", 2, True, 2)]:
            self.assertIs(is_other(move), False)


class TextsTest(unittest.TestCase):
    def assert_bad(self, decls, kind, text):
        with self.subTest(text):
            self.assertIs(error_of(read_play, decls, kind, text), BadForm)

    def test_each_letter(self):
        for decls in DECLS:
            for kind in ("com", "exp"):
                for move, text in all_letters(decls, kind):
                    self.assertEqual(move_text(decls, move), text)
                    self.assertEqual(read_play(decls, kind, text), [move])

    def test_letters_of_both_kinds_have_texts(self):
        for value in range(3):
            self.assertEqual(move_text((), ("", 0, True, value)), f"!{value}")

    def test_plays(self):
        for decls in DECLS[::5]:
            moves = letters(decls, "exp")
            for at in range(len(moves)):
                play = (moves[at:] + moves[:at])[:40]
                before = copy.deepcopy((decls, play))
                text = " ".join(move_text(decls, move) for move in play)
                self.assertEqual(read_play(decls, "exp", text), play)
                self.assertEqual((decls, play), before)

    def test_parts_that_are_no_letters(self):
        decls = (("e", (), "exp"), ("f", ("com", "val"), "com"), ("g", ("val", "val"), "exp"))
        for text in [
            "f?", "f?3", "f?9", "f?-1", "f? 0", "f ?0", "f!", "f!1", "f!00", "f?00", "f?01", "f.1", "f.1!", "f.1!1", "f.1?0",
            "f.0?", "f.2?", "f.2!0", "f.3?", "f.01?", "g?9", "g?10", "g!3", "e?0", "e!3", "e.1?", "h?", "h!0", "ff?0", "F?0",
            "!3", "!", "!00", "!-1", "??", "?0", "!!!", "!!0", "x", "f", "0", "f.1!0.", ".", ".1?", "f..1?", "?\n", "?\t",
        ]:
            self.assert_bad(decls, "exp", text)
            self.assert_bad(decls, "exp", "? " + text)
            self.assert_bad(decls, "exp", text + " ?")
        self.assert_bad((), "com", "!1")
        self.assertEqual(read_play((), "exp", "!1"), [("", 0, True, 1)])

    def test_spaces(self):
        decls = (("p", (), "com"),)
        for text in [" ", "  ", " ?", "? ", "?  p?", "? p?  p!0", " ? p?", "? p? "]:
            self.assert_bad(decls, "com", text)
        self.assertEqual(read_play(decls, "com", "? p? p!0"), [QUESTION, ("p", 0, False, 0), ("p", 0, True, 0)])

    def test_the_empty_text(self):
        for decls in DECLS[::7]:
            self.assertEqual(read_play(decls, "com", ""), [])
        found = read_play((), "com", "")
        found.append(FAULT)
        self.assertEqual(read_play((), "com", ""), [])

    def test_numbers_of_moves(self):
        for count in (39, 40):
            self.assertEqual(read_play((), "com", " ".join(["?"] * count)), [QUESTION] * count)
        for count in (41, 42, 400):
            self.assert_bad((), "com", " ".join(["?"] * count))

    def test_any_order_of_moves_is_read(self):
        self.assertEqual(read_play((), "com", "!! !0 ?"), [FAULT, ("", 0, True, 0), QUESTION])


if __name__ == "__main__":
    unittest.main()
