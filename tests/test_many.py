"""Many pieces of all sorts: what is written is read back, and all agree with the rules written once more."""

import unittest

from doppelganger.names import check_piece, used_names
from doppelganger.reader import Reader, read_piece
from doppelganger.terms import FORMS, is_shaped, kids, nodes
from doppelganger.writer import piece_text
from generate import pieces
from helpers import error_of, spread, squeezed
from reference import error_of_piece, levels, parts

SOUND = [piece for size in (2, 4, 6, 8) for piece in pieces(400, size) if error_of_piece(piece) is None]
ANY = [piece for size in (1, 2, 3, 5, 7) for piece in pieces(500, size, sound=False)]
LARGE = [piece for size in (12, 20) for piece in pieces(60, size)]


class ManyPiecesTest(unittest.TestCase):
    def test_there_are_pieces_of_all_sorts(self):
        words = {(kind, term[0]) for piece in SOUND for kind, term, _ in nodes(piece[2], piece[1])}
        expected = {(kind, word) for word, (home, _) in FORMS.items()
                    for kind in (("com", "exp") if home == "both" else (home,))}
        self.assertEqual(words, expected)
        self.assertGreater(len(SOUND), 1000)

    def test_written_pieces_are_read_back(self):
        for piece in SOUND:
            text = piece_text(piece)
            if len(text) <= 6000:
                with self.subTest(text):
                    self.assertEqual(read_piece(text), piece)
                    self.assertEqual(read_piece(squeezed(text)), piece)
                    if len(spread(text)) <= 6000:
                        self.assertEqual(read_piece(spread(text)), piece)

    def test_texts_are_the_same_again(self):
        for piece in SOUND:
            text = piece_text(piece)
            if len(text) <= 6000:
                self.assertEqual(piece_text(read_piece(squeezed(text))), text)

    def test_errors_are_those_of_the_rules(self):
        found = set()
        for piece in SOUND + ANY + LARGE:
            with self.subTest(piece):
                self.assertTrue(is_shaped(piece))
                expected = error_of_piece(piece)
                found.add(expected)
                self.assertIs(error_of(check_piece, piece), expected)
        self.assertEqual(len(found), 4)

    def test_reading_has_the_errors_of_the_rules(self):
        for piece in SOUND + ANY + LARGE:
            text = piece_text(piece)
            if len(text) <= 6000:
                with self.subTest(text):
                    self.assertIs(error_of(read_piece, text), error_of_piece(Reader(text).read_whole()))

    def test_nodes_are_those_of_the_rules(self):
        for piece in SOUND + ANY:
            _, kind, term = piece
            found = nodes(term, kind)
            self.assertEqual([level for _, _, level in found], levels(term, kind))
            for node_kind, node, _ in found:
                self.assertEqual(kids(node, node_kind), [(each, part) for each, part, _ in parts(node, node_kind, {})])

    def test_used_names_are_those_that_must_be_declared(self):
        for piece in SOUND:
            decls, kind, term = piece
            expected = []
            for decl in decls:
                others = tuple(other for other in decls if other != decl)
                if error_of(check_piece, (others, kind, term)) is not None:
                    expected.append(decl[0])
            self.assertEqual(used_names(piece), expected)


if __name__ == "__main__":
    unittest.main()
