"""[5.7], [5.10]: certificates that two pieces are the same."""

import copy
import random
import unittest

from doppelganger.certify import certify, check_certificate
from doppelganger.errors import Apart, BadForm, BadKind, NotAllowed, TooLarge
from doppelganger.plays import plays
from doppelganger.reader import read_piece
from doppelganger.relate import check_relation, relation
from doppelganger.same import same
from generate import playful_pieces
from helpers import error_of
from test_same import changed, pairs_of, with_machine
from test_situations import TOO_LARGE, long_run, piece_of

FIRST = piece_of("com : f({ skip }, e)")
SECOND = piece_of("com : skip; f({ new x = 1 { x := 0 } }, e * 1)")
OTHER = piece_of("com : f({ skip }, 1)")


class CertifyTest(unittest.TestCase):
    def test_pairs(self):
        states = len(plays(FIRST)[1])
        self.assertEqual(certify(FIRST, SECOND), [(state, state) for state in range(states)])
        for piece in with_machine(playful_pieces(60, 4, 51)):
            states = len(plays(piece)[1])
            for other in with_machine(changed(piece))[:4]:
                pairs = certify(piece, other)
                # The pairs of the first states are met even if there are none.
                self.assertEqual(pairs, [(state, state) for state in range(states)])
                self.assertEqual(pairs, relation(plays(piece), plays(other)))
                self.assertIsNone(check_certificate(piece, other, pairs))
                self.assertIsNone(check_certificate(other, piece, pairs))

    def test_pieces_without_plays(self):
        first, second = piece_of("com : stop"), piece_of("com : while 1 { skip }")
        self.assertEqual(certify(first, second), [])
        self.assertIsNone(check_certificate(first, second, []))
        self.assertIs(error_of(check_certificate, first, second, [(-1, -1)]), BadForm)
        self.assertIs(error_of(check_certificate, first, second, [(0, 0)]), BadForm)
        self.assertIs(error_of(check_certificate, first, piece_of("com : skip"), []), Apart)

    def test_lists_that_are_changed(self):
        pairs = certify(FIRST, SECOND)
        for at in range(len(pairs)):
            self.assertIs(error_of(check_certificate, FIRST, SECOND, pairs[:at] + pairs[at + 1:]), Apart)
            self.assertIs(error_of(check_certificate, FIRST, SECOND, pairs[:at] + pairs[at:at + 1] + pairs[at:]), BadForm)
            if at > 0:
                exchanged = pairs[:at - 1] + [pairs[at], pairs[at - 1]] + pairs[at + 1:]
                self.assertIs(error_of(check_certificate, FIRST, SECOND, exchanged), BadForm)
            for pair in [(at, at + 1), (at, -1), (-1, at)]:
                for other in (sorted(set(pairs[:at] + [pair] + pairs[at + 1:])), sorted(pairs + [pair])):
                    expected = error_of(check_relation, plays(FIRST), plays(SECOND), other)
                    self.assertIn(expected, (Apart, BadForm))
                    self.assertIs(error_of(check_certificate, FIRST, SECOND, other), expected)
        for pair in [(len(pairs), 0), (0, len(pairs)), (-2, 0), (0, -2), (-1, -1)]:
            self.assertIs(error_of(check_certificate, FIRST, SECOND, sorted(pairs + [pair])), BadForm)
        self.assertIs(error_of(check_certificate, FIRST, SECOND, []), Apart)

    def test_pieces_that_are_apart(self):
        chance = random.Random("apart")
        count = 0
        for first, second in pairs_of(with_machine(playful_pieces(150, 3, 52)) + [FIRST, SECOND, OTHER]):
            if same(first, second):
                self.assertIsNone(check_certificate(first, second, certify(first, second)))
                continue
            count += 1
            self.assertIs(error_of(certify, first, second), Apart)
            rows, columns = len(plays(first)[1]), len(plays(second)[1])
            everything = [(one, other) for one in range(-1, rows) for other in range(-1, columns)][1:]
            for pairs in [[], everything, certify(first, first), certify(second, second)] + [
                sorted(chance.sample(everything, chance.randrange(len(everything) + 1))) for _ in range(5)
            ]:
                self.assertIn(error_of(check_certificate, first, second, pairs), (Apart, BadForm))
            self.assertIs(error_of(check_certificate, first, second, everything), Apart)
        self.assertGreater(count, 40)

    def test_errors_in_their_order(self):
        large = read_piece(TOO_LARGE)
        beyond = read_piece("f(com) : com |- com : f({ block k { f({ exit k }) } })")
        fine = read_piece("f(com) : com |- com : skip")
        long = (fine[0], "com", long_run(2001))
        for first, second, error in [
            (large, beyond, TooLarge), (beyond, large, NotAllowed), (fine, beyond, NotAllowed), (fine, long, TooLarge),
            (fine, read_piece("|- com : stop"), BadKind), (large, OTHER, BadKind), (long, beyond, TooLarge),
        ]:
            self.assertIs(error_of(certify, first, second), error)
            self.assertIs(error_of(check_certificate, first, second, [(-1, -1)]), error)

    def test_lists_may_be_changed_and_arguments_stay(self):
        before = copy.deepcopy((FIRST, SECOND))
        found = certify(FIRST, SECOND)
        kept = list(found)
        found.append((0, 0))
        found[0] = (7, 7)
        self.assertEqual(certify(FIRST, SECOND), kept)
        check_certificate(FIRST, SECOND, kept)
        self.assertEqual(kept, certify(FIRST, SECOND))
        self.assertEqual((FIRST, SECOND), before)


if __name__ == "__main__":
    unittest.main()
