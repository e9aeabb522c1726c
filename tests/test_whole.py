"""[0.1], [0.2], [8.7]: the same question, asked in all ways that the program has, is answered alike."""

import copy
import random
import unittest

import reference_runs
from doppelganger.around import around_of
from doppelganger.certify import certify, check_certificate
from doppelganger.compiler import compile_piece
from doppelganger.contexts import fill
from doppelganger.cpu import run_code
from doppelganger.desk import run_script
from doppelganger.errors import Apart, BadForm, BadName, Same, TooLarge
from doppelganger.instructions import is_code
from doppelganger.linking import link
from doppelganger.modules import check_module, piece_of
from doppelganger.moves import FAULT
from doppelganger.names import check_piece
from doppelganger.plays import is_play, plays
from doppelganger.reader import read_piece
from doppelganger.relations import is_relation, relation, same_modules
from doppelganger.runs import run
from doppelganger.same import difference, same
from doppelganger.unfold import is_beyond
from doppelganger.witness import context_of, witness
from doppelganger.writer import piece_text
from generate import leaving_pieces, lively_pieces, lively_programs, modules, playful_pieces, programs
from helpers import error_of
from test_cpu import visiting_around
from test_linking import calling
from test_same import changed, with_machine

ONE_QUESTION = [(2, 0), (0, 0)]


def with_code(made):
    """Those of some pieces that are sound and have code."""
    return [piece for piece in made if error_of(check_piece, piece) is None and error_of(compile_piece, piece) is None]


def outcome_of(function, *args):
    """What a call returns, or the class of the error that it raises."""
    try:
        return function(*args)
    except (TooLarge, BadName) as error:
        return error.__class__


class ProgramsTest(unittest.TestCase):
    def test_the_code_of_programs(self):
        told = {}
        for piece in with_code(programs(200, 6, 110) + lively_programs(250, 7, 111) + lively_programs(100, 9, 112)):
            result = outcome_of(run, piece)
            code = outcome_of(run_code, compile_piece(piece), ONE_QUESTION, 0)
            if TooLarge in (result, code):
                told["large"] = told.get("large", 0) + 1
                continue
            self.assertEqual(code[:2], result[:2])
            self.assertEqual(code[2], 2 if result[0] == "done" else 1)
            self.assertEqual(result, reference_runs.result_of(piece))
            told[result[0]] = told.get(result[0], 0) + 1
        self.assertGreater(min(told["done"], told["faulted"], told["never"]), 30)
        self.assertLess(told.get("large", 0), 60)

    def test_the_code_of_linked_modules(self):
        told = {}
        for module in modules(200, 4, 113):
            if error_of(check_module, module) is None:
                client = calling(module, [(0, 1), (len(module[1]) - 1, 2), (0, 0)])
                if error_of(link, module, client) is None:
                    for piece in with_code([link(module, client)]):
                        result, code = outcome_of(run, piece), outcome_of(run_code, compile_piece(piece), ONE_QUESTION, 0)
                        if TooLarge not in (result, code):
                            self.assertEqual(code[:2], result[:2])
                            told[result[0]] = told.get(result[0], 0) + 1
        self.assertGreater(min(told["done"], told["faulted"], told["never"]), 5)


class SameCodeTest(unittest.TestCase):
    def test_code_of_pieces_that_are_the_same(self):
        chance = random.Random(114)
        told = {}
        for piece in with_code(playful_pieces(150, 4, 115) + leaving_pieces(60, 5, 116) + lively_pieces(80, 5, 117)):
            if is_beyond(piece):
                continue
            others = with_code(changed(piece))
            for other in chance.sample(others, min(3, len(others))):
                for _ in range(4):
                    around = visiting_around(chance)
                    first, second = [outcome_of(run_code, compile_piece(each), around, 2) for each in (piece, other)]
                    if TooLarge not in (first, second):
                        self.assertEqual(first, second, (piece, other, around))
                        told[first[0]] = told.get(first[0], 0) + 1
        self.assertGreater(min(told["done"], told["faulted"], told["never"]), 50)


class WholeTest(unittest.TestCase):
    def check(self, told, first, second):
        """All that the program says of two pieces that have plays."""
        before = copy.deepcopy((first, second))
        is_same = same(first, second)
        self.assertIs(is_same, same(second, first))
        self.assertIs(is_same, plays(first) == plays(second))
        if is_same:
            self.check_same(first, second)
        else:
            self.check_apart(told, first, second)
        self.assertEqual((first, second), before)
        told[is_same] = told.get(is_same, 0) + 1

    def check_same(self, first, second):
        for one, other in ((first, second), (second, first)):
            self.assertIs(error_of(difference, one, other), Same)
            if "hole" not in [name for name, _, _ in one[0]]:
                self.assertIs(error_of(witness, one, other), Same)
            self.assertIsNone(check_certificate(one, other, certify(one, other)))

    def check_apart(self, told, first, second):
        play, is_first = difference(first, second)
        self.assertEqual(difference(second, first), (play, not is_first))
        with_it, without = (first, second) if is_first else (second, first)
        self.assertTrue(is_play(with_it, play))
        self.assertFalse(is_play(without, play))
        for one, other in ((first, second), (second, first)):
            self.assertIs(error_of(certify, one, other), Apart)
            self.assertIn(error_of(check_certificate, one, other, certify(one, one)), (Apart, BadForm))
        self.check_context(told, play, with_it, without)
        self.check_code(told, play, with_it, without)

    def check_context(self, told, play, with_it, without):
        context = outcome_of(witness, with_it, without)
        if context in (TooLarge, BadName):
            self.assertTrue(len(play) > 12 or context is BadName)
            return
        filled = [outcome_of(fill, context, piece) for piece in (with_it, without)]
        results = [outcome_of(run, piece)[0] for piece in filled if piece is not TooLarge]
        if len(results) == 2:
            # The piece that makes the fault instead is the one that is shown.
            other_way = is_play(without, play[:-1] + [FAULT])
            self.assertEqual(results, ["never", "faulted"] if other_way else ["faulted", "never"])
            self.assertEqual(context, context_of(with_it[0], with_it[1], play[:-1] + [FAULT] if other_way else play))
            told["context"] = told.get("context", 0) + 1

    def check_code(self, told, play, with_it, without):
        if len(play) > 12 or len(with_code([with_it, without])) < 2:
            return
        around, entry = around_of(with_it[0], with_it[1], play)
        results = [outcome_of(run_code, compile_piece(piece), around, entry) for piece in (with_it, without)]
        if TooLarge in results:
            return
        for piece in (with_it, without):
            self.assertTrue(is_code(compile_piece(piece)))
        if play[-1] == FAULT:
            self.assertEqual(results[0][0], "faulted")
            self.assertIn(results[1][0], ("done", "never"))
        else:
            self.assertEqual(results[0][0], "done")
            self.assertIn(results[1][0], ("faulted", "never"))
        told["code"] = told.get("code", 0) + 1

    def test_pieces(self):
        chance = random.Random(118)
        told = {}
        made = with_machine(playful_pieces(120, 4, 119) + leaving_pieces(80, 4, 120) + lively_pieces(60, 4, 121))
        for piece in made:
            others = with_machine(changed(piece))
            for other in chance.sample(others, min(2, len(others))):
                self.check(told, piece, other)
            others = [other for other in made if other[:2] == piece[:2] and other is not piece]
            for other in chance.sample(others, min(2, len(others))):
                self.check(told, piece, other)
        self.assertGreater(min(told[True], told[False], told["context"], told["code"]), 100)

    def test_pieces_of_modules(self):
        told = {}
        found = []
        for module in modules(60, 4, 122):
            if error_of(check_module, module) is None and with_machine([piece_of(module)]):
                found.append(module)
        for first in found:
            for second in found:
                one, two = piece_of(first), piece_of(second)
                if one[:2] == two[:2]:
                    self.check(told, one, two)
                    self.assertIs(same_modules(first, second), same(one, two))
                    pairs = outcome_of(relation, first, second) if same(one, two) else []
                    if pairs is not TooLarge:
                        self.assertIs(is_relation(first, second, pairs), same(one, two))
        self.assertGreater(min(told[True], told[False], told["context"], told["code"]), 30)

    def test_scripts(self):
        # The desk says the same about a pair of pieces, line by line.
        lines = ["same a b", "differ a b", "certify a b", "witness a b c", "fill c a d", "run d", "fill c b e", "run e", "attack a b"]
        for one, two, told in [
            ("p : com |- com : p; p", "p : com |- com : p", ["no", "b", "apart", "ok", "ok", "never", "ok", "faulted", "faulted done"]),
            ("p : com |- com : p; fault", "p : com |- com : p", ["no", "b", "apart", "ok", "ok", "faulted", "ok", "never", "faulted done"]),
            ("p : com |- com : stop", "p : com |- com : p", ["no", "b", "apart", "ok", "ok", "never", "ok", "faulted", "never done"]),
            ("p : com |- com : skip; p", "p : com |- com : p", ["yes", "same", "5", "same", "none", "none", "none", "none", "same"]),
        ]:
            answers = run_script("\n".join([f"let a = {one}", f"let b = {two}"] + lines))[2:]
            answers[1] = answers[1].split(" : ")[-1]
            answers[5], answers[7] = answers[5].split(" ")[0], answers[7].split(" ")[0]
            self.assertEqual(answers, told)


class ValuesTest(unittest.TestCase):
    def test_arguments_stay_and_values_are_new(self):
        piece = read_piece("f(com) : com |- com : new x = 0 { f({ x := x + 1 }); f({ x := x * 2 }) }")
        other = read_piece("f(com) : com |- com : f({ skip })")
        play, _ = difference(piece, other)
        code = compile_piece(piece)
        around, entry = around_of(piece[0], piece[1], play)
        before = copy.deepcopy((piece, other, play, code, around))
        told = run_code(code, around, entry)
        self.assertEqual((piece, other, play, code, around), before)
        code.append(("end",))
        around.append((0, 0))
        self.assertEqual(compile_piece(piece), before[3])
        self.assertEqual(around_of(piece[0], piece[1], play), (before[4], entry))
        self.assertEqual(run_code(before[3], before[4], entry), told)

    def test_calls_do_not_depend_on_earlier_ones(self):
        for piece in with_code(playful_pieces(40, 5, 123)):
            first, text = compile_piece(piece), piece_text(piece)
            error_of(run_code, first, [(2, 0), (9, 0)], 0)
            self.assertEqual(compile_piece(piece), first)
            self.assertEqual(piece_text(piece), text)


if __name__ == "__main__":
    unittest.main()
