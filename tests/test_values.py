"""[1.1]: arguments stay as they are, and what is returned is new each time."""

import copy
import unittest

from doppelganger.automata import accepts, check_machine, count_words, least_machine
from doppelganger.contexts import fill
from doppelganger.differ import difference as machine_difference
from doppelganger.names import check_piece, used_names
from doppelganger.reader import read_piece
from doppelganger.relate import check_relation, relation
from doppelganger.runs import run, run_for
from doppelganger.terms import is_shaped, kids, nodes, row
from doppelganger.writer import piece_text
from generate import contexts, lively_programs, pieces
from helpers import ONE, SKIP, error_of
from machines import random_machines

TEXT = "c : com, f(com, val) : com |- com : c; f({ c }, 1); new x = 1 { x := x }"


class ValuesTest(unittest.TestCase):
    def assert_new_list(self, function, *args):
        first = function(*args)
        kept = list(first)
        first.append("more")
        first[0] = "other"
        second = function(*args)
        self.assertEqual(second, kept)
        second.clear()
        self.assertEqual(function(*args), kept)

    def test_lists_that_were_returned_may_be_changed(self):
        piece = read_piece(TEXT)
        self.assert_new_list(used_names, piece)
        for kind, term, _ in nodes(piece[2], piece[1]):
            self.assert_new_list(nodes, term, kind)
            if kids(term, kind):
                self.assert_new_list(kids, term, kind)

    def test_empty_lists_that_were_returned_may_be_changed(self):
        kids(SKIP, "com").append(("exp", ONE))
        self.assertEqual(kids(SKIP, "com"), [])
        kids(("call", "p", ()), "com").append(("exp", ONE))
        self.assertEqual(kids(("call", "p", ()), "com"), [])
        used_names(((), "com", SKIP)).append("x")
        self.assertEqual(used_names(((), "com", SKIP)), [])

    def test_arguments_stay(self):
        for piece in pieces(200, 5):
            before = copy.deepcopy(piece)
            is_shaped(piece)
            check_piece(piece)
            used_names(piece)
            piece_text(piece)
            nodes(piece[2], piece[1])
            self.assertEqual(piece, before)

    def test_calls_do_not_depend_on_earlier_ones(self):
        for piece in pieces(100, 5):
            self.assertEqual(nodes(piece[2], piece[1]), nodes(piece[2], piece[1]))
            self.assertEqual(piece_text(piece), piece_text(piece))
            self.assertEqual(used_names(piece), used_names(piece))
        self.assertEqual(read_piece(TEXT), read_piece(TEXT))
        for _ in range(2):
            with self.assertRaises(ValueError):
                read_piece("|- exp : (")
            self.assertEqual(read_piece("|- exp : 1"), ((), "exp", ONE))

    def test_programs_stay(self):
        for piece in lively_programs(60, 6):
            before = copy.deepcopy(piece)
            for function, args in [(run, (piece,)), (run_for, (piece, 500)), (run_for, (piece, 500)), (run, (piece,))]:
                error_of(function, *args)
            self.assertEqual(piece, before)
            self.assertEqual(run_for(piece, 500), run_for(piece, 500))

    def test_contexts_stay(self):
        for context in contexts(60, 5):
            piece = ((), "com", ("seq", SKIP, ("stop",)))
            before = copy.deepcopy((context, piece))
            error_of(fill, context, piece)
            error_of(fill, context, context)
            self.assertEqual((context, piece), before)

    def test_machines_words_and_pairs_stay(self):
        for machine in random_machines(100, 9):
            word, pairs = [0, 1, 2], [(0, 0), (1, 1)]
            before = copy.deepcopy((machine, word, pairs))
            other = least_machine(machine)
            for function, args in [(check_machine, (machine,)), (accepts, (machine, word)), (count_words, (machine, 5)),
                                   (machine_difference, (machine, other)), (relation, (machine, other)),
                                   (check_relation, (machine, other, pairs))]:
                error_of(function, *args)
            self.assertEqual((machine, word, pairs), before)
            self.assertEqual(least_machine(machine), other)
            if machine[1]:
                self.assert_new_list(relation, machine, machine)

    def test_row_leaves_its_arguments(self):
        first, second = ("seq", SKIP, SKIP), ("seq", SKIP, ("stop",))
        row(first, second)
        self.assertEqual((first, second), (("seq", SKIP, SKIP), ("seq", SKIP, ("stop",))))


if __name__ == "__main__":
    unittest.main()
