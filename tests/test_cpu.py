"""[8.1], [8.2], [8.5], [8.6]: running code with code around it."""

import copy
import random
import unittest

from doppelganger.compiler import compile_piece
from doppelganger.cpu import run_code
from doppelganger.errors import BadForm, TooLarge
from doppelganger.instructions import is_code
from doppelganger.names import check_piece
from doppelganger.reader import read_piece
from generate import leaving_pieces, lively_pieces, playful_pieces
from helpers import error_of
from reference_code import result_of

END, PUSH, CALL = ("end",), ("push", 1), ("call", 0, 0, 0)
ONE_QUESTION = [(2, 0), (0, 0)]
FAULTED = ("faulted", 0, 1)


def code_of(text):
    return compile_piece(read_piece(text))


def by_visits(actions, behind=((0, 0),)):
    """Code around, and its entry, that does the first of some lists of pairs when a name is asked first, and so on.

    Behind the answer of the first question stands `behind`.
    """
    around = [(2, 0), *behind]
    entry = len(around)
    around += [(6, 0), (8, 1), (7, 0)]
    place = len(around) + 2 * len(actions)
    for pairs in actions:
        around += [(8, -1), (10, place)]
        place += len(pairs)
    return around + [pair for pairs in actions for pair in pairs], entry


class CpuCase(unittest.TestCase):
    def assert_run(self, code, around, expected, entry=0):
        with self.subTest(code=code[:20], around=around[:20], entry=entry):
            self.assertTrue(is_code(code))
            self.assertEqual(run_code(code, around, entry), expected)
            # The other account agrees.
            self.assertEqual(result_of(code, around, entry), expected)

    def assert_visits(self, code, actions, result, value=0):
        """What is told of code and what is done at each visit; the other account tells the number of pairs, too."""
        around, entry = by_visits(actions)
        with self.subTest(code=code[:20], actions=actions[:20]):
            found = run_code(code, around, entry)
            self.assertEqual(found[:2], (result, value))
            self.assertEqual(found, result_of(code, around, entry))

    def assert_asked(self, cases):
        """What is told of one question about code."""
        for code, expected in cases:
            self.assert_run(code, ONE_QUESTION, expected if isinstance(expected, tuple) else ("done", expected, 2))


class ExamplesTest(CpuCase):
    def test_examples(self):
        self.assert_run(code_of("|- exp : 1 + 2"), [(2, 0), (0, 0)], ("done", 0, 2))
        code = code_of("p : com |- com : p")
        self.assert_run(code, [(2, 0), (0, 0), (5, 0), (3, 0)], ("done", 0, 4), 2)
        self.assert_run(code, [(2, 0), (0, 0), (5, 1), (3, 0)], ("faulted", 0, 3), 2)


class InstructionsTest(CpuCase):
    def test_numbers(self):
        self.assert_asked([
            ([PUSH, END], 1), ([("push", 2), END], 2), ([("push", 2), PUSH, END], 1), ([("push", 2), PUSH, ("pop",), END], 2),
            ([END], FAULTED), ([("pop",), END], FAULTED), ([PUSH, ("pop",), END], FAULTED), ([PUSH, ("pop",), ("pop",)], FAULTED),
            ([("fault",)], FAULTED), ([("stop",)], ("never", 0, 1)), ([PUSH, ("stop",), END], ("never", 0, 1)),
            ([PUSH, ("fault",), END], FAULTED),
        ])

    def test_operators(self):
        for word, results in [("add", "012120201"), ("sub", "021102210"), ("mul", "000012021"), ("equal", "100010001"),
                              ("less", "011001000")]:
            for at, result in enumerate(results):
                code = [("push", at // 3), ("push", at % 3), (word,), END]
                self.assert_asked([(code, int(result)), ([("push", 2)] + code[:3] + [("add",), END], (int(result) + 2) % 3)])
            self.assert_asked([([(word,), END], FAULTED), ([PUSH, (word,), END], FAULTED), ([PUSH, PUSH, PUSH, (word,), END],
                                                                                            1 if word in ("mul", "equal") else
                                                                                            {"add": 2, "sub": 0, "less": 0}[word])])

    def test_variables(self):
        self.assert_asked([
            ([("push", 2), ("open",), ("load", 0), END], 2), ([("push", 2), ("open",), PUSH, ("open",), ("load", 0), END], 2),
            ([("push", 2), ("open",), PUSH, ("open",), ("load", 1), END], 1),
            ([("push", 2), ("open",), PUSH, ("open",), ("close",), ("load", 0), END], 2),
            ([("push", 2), ("open",), PUSH, ("open",), ("push", 0), ("store", 1), ("load", 1), ("load", 0), ("sub",), END], 1),
            ([PUSH, ("open",), ("push", 0), ("store", 0), ("load", 0), END], 0),
            ([("open",), PUSH, END], FAULTED), ([PUSH, ("load", 0), END], FAULTED), ([PUSH, ("open",), ("load", 1), END], FAULTED),
            ([PUSH, ("open",), ("close",), ("load", 0), END], FAULTED), ([PUSH, ("close",), END], FAULTED),
            ([PUSH, ("open",), ("close",), ("close",), PUSH, END], FAULTED), ([PUSH, PUSH, ("store", 0), END], FAULTED),
            ([PUSH, ("open",), ("store", 0), PUSH, END], FAULTED), ([PUSH, ("open",), PUSH, PUSH, ("store", 1), END], FAULTED),
            ([PUSH, ("open",), PUSH, ("load", 600), END], FAULTED), ([PUSH, ("open",), PUSH, END], 1),
        ])

    def test_jumps(self):
        self.assert_asked([
            ([("jump", 2), ("fault",), PUSH, END], 1), ([("push", 0), ("jzero", 3), ("fault",), PUSH, END], 1),
            ([PUSH, ("jzero", 2), ("push", 2), END], 2), ([("push", 2), ("jzero", 3), ("push", 2), PUSH, END], 1),
            ([("jump", 3), PUSH, END, ("jump", 1)], 1), ([("jzero", 1), PUSH, END], FAULTED),
            ([PUSH, ("push", 0), ("jzero", 3), END], 1), ([PUSH, ("push", 0), ("jzero", 3), ("jzero", 0), PUSH, END], 1),
        ])

    def test_places_that_are_not_there(self):
        for last in (PUSH, ("jzero", 0), ("block", 0), ("open",), ("store", 0), ("add",)):
            self.assert_asked([([PUSH, ("open",), PUSH, PUSH, last], FAULTED)])
        # The answer comes, but the piece cannot go on.
        self.assert_run([CALL], [(2, 0), (0, 0), (3, 0)], ("faulted", 0, 2), 2)
        self.assert_run([CALL, END], [(2, 0), (0, 0), (5, 2), (3, 0)], ("done", 2, 4), 2)

    def test_blocks(self):
        self.assert_asked([
            ([("block", 2), ("unblock",), PUSH, END], 1), ([("unblock",), PUSH, END], FAULTED), ([("exit", 0), PUSH, END], FAULTED),
            ([("block", 3), ("exit", 0), ("fault",), PUSH, END], 1), ([("block", 3), ("exit", 1), PUSH, PUSH, END], FAULTED),
            ([("block", 2), ("unblock",), ("exit", 0), PUSH, END], FAULTED), ([("block", 2), ("unblock",), ("unblock",)], FAULTED),
            # The mark goes with the exit, and all later ones.
            ([("block", 2), ("exit", 0), ("exit", 0)], FAULTED), ([("block", 3), ("block", 2), ("exit", 0), ("exit", 0)], FAULTED),
            ([("block", 4), ("block", 3), ("exit", 1), ("exit", 0), PUSH, END], 1),
            ([("block", 4), ("block", 5), ("exit", 0), ("fault",), PUSH, END], 1),
            ([("block", 4), ("block", 5), ("exit", 1), ("fault",), ("fault",), PUSH, END], 1),
            ([("block", 3), ("block", 3), ("exit", 0), ("unblock",), PUSH, END], FAULTED),
            ([("block", 4), ("block", 3), ("exit", 1), ("unblock",), PUSH, END], 1),
        ])

    def test_what_an_exit_leaves(self):
        self.assert_asked([
            # Numbers and variables are those that were there when the mark was made.
            ([("push", 2), ("block", 4), PUSH, ("exit", 0), END], 2), ([("block", 3), PUSH, ("exit", 0), END], FAULTED),
            ([("push", 2), ("open",), ("block", 6), PUSH, ("open",), ("exit", 0), ("load", 0), END], 2),
            ([("push", 2), ("open",), ("block", 6), PUSH, ("open",), ("exit", 0), ("load", 1), END], FAULTED),
            ([("push", 2), ("open",), ("block", 5), ("push", 0), ("store", 0), ("load", 0), END], 0),
            ([("push", 2), ("open",), ("block", 6), ("push", 0), ("store", 0), ("exit", 0), ("load", 0), END], 0),
            # With fewer of them it cannot be done.
            ([PUSH, ("block", 4), ("pop",), ("exit", 0), PUSH, END], FAULTED),
            ([PUSH, ("block", 5), ("pop",), PUSH, ("exit", 0), END], 1),
            ([PUSH, ("block", 5), ("pop",), ("push", 2), ("exit", 0), END], 2),
            ([PUSH, ("open",), ("block", 5), ("close",), ("exit", 0), PUSH, END], FAULTED),
            ([PUSH, ("open",), ("block", 7), ("close",), PUSH, ("open",), ("exit", 0), PUSH, END], 1),
        ])

    def test_as_many_as_there_may_be(self):
        for count in (39, 40, 41):
            refused = count > 40
            self.assert_asked([
                ([PUSH] * count + [END], FAULTED if refused else 1),
                ([PUSH, ("open",)] + [("load", 0)] * count + [END], FAULTED if refused else 1),
                ([PUSH, ("open",)] * count + [PUSH, END], FAULTED if refused else 1),
                ([("block", 0)] * count + [PUSH, END], FAULTED if refused else 1),
                ([PUSH, ("pop",)] * count + [PUSH, END], 1), ([PUSH, ("open",), ("close",)] * count + [PUSH, END], 1),
                ([("block", 0), ("unblock",)] * count + [PUSH, END], 1),
            ])
            # The answer is a number more, or it takes the place of a value.
            self.assert_run([PUSH] * (count - 1) + [CALL, END], [(2, 0), (0, 0), (3, 0)], ("faulted", 0, 2) if refused else ("done", 1, 3), 2)
            code = [PUSH] * count + [("call", 0, 0, 1), END]
            self.assert_run(code, [(2, 0), (0, 0), (3, 0)], FAULTED if refused else ("done", 1, 3), 2)

    def test_calls(self):
        for many, values in enumerate(([], [0], [2, 0])):
            code = [PUSH, ("push", 2), ("push", 0), ("call", 3, 0, many), END]
            # A is the number of the name, or a value of the call.
            self.assert_run(code, [(2, 0), (0, 0), (13, 0), (0, 0)], ("done", 4, 3), 2)
            for at in range(-1, 5):
                told = ("done", values[at - 1], 4) if 1 <= at <= many else ("faulted", 0, 2)
                self.assert_run(code, [(2, 0), (0, 0), (12, at), (13, 0), (0, 0)], told, 2)
        self.assert_asked([([("call", 0, 0, 1), END], FAULTED), ([PUSH, ("call", 0, 0, 2), END], FAULTED)])
        # The answer takes the place of the values.
        self.assert_run([PUSH, ("push", 2), ("push", 2), ("call", 0, 0, 2), ("add",), END], [(2, 0), (0, 0), (5, 1), (3, 0)], ("done", 2, 4), 2)
        self.assert_run([("push", 2), ("push", 2), ("call", 0, 0, 2), ("add",), END], [(2, 0), (0, 0), (5, 1), (3, 0)], ("faulted", 0, 3), 2)

    def test_names_are_numbers_of_a_byte(self):
        for name, told in [(0, 1), (1, 2), (254, 255), (255, 0), (256, 1), (600, 89)]:
            code = [("call", name, 0, 0), END]
            self.assert_run(code, [(2, 0), (13, 0), (0, 0)], ("done", told, 3), 1)
            self.assert_run(code, [(2, 0), (5, 7), (11, 0), (13, 0), (0, 0)], ("done", told, 5), 1)


class ArgumentsTest(CpuCase):
    def test_arguments_are_run_with_what_is_there(self):
        code = [("push", 2), ("open",), PUSH, ("call", 0, 0, 0, 5), END, PUSH, ("store", 0), ("load", 0), END]
        around = [(2, 0), (0, 0), (4, 1), (7, 0), (3, 0)]
        self.assert_run(code, around, ("done", 1, 5), 2)
        # A variable that an argument opens stays open, numbers and marks that it leaves stay there.
        code = [PUSH, ("call", 0, 0, 0, 5), ("load", 0), ("add",), END, ("push", 2), ("open",), PUSH, END]
        self.assert_run(code, [(2, 0), (0, 0), (4, 1), (3, 0)], ("done", 0, 4), 2)
        code = [("call", 0, 0, 0, 4), ("sub",), ("sub",), END, PUSH, ("push", 2), ("push", 0), END]
        self.assert_run(code, [(2, 0), (0, 0), (4, 1), (3, 0)], ("done", 2, 4), 2)
        code = [("call", 0, 0, 0, 4), ("unblock",), PUSH, END, ("block", 0), PUSH, END]
        self.assert_run(code, [(2, 0), (0, 0), (4, 1), (5, 0), (3, 0)], ("done", 1, 5), 2)
        self.assert_run(code, [(2, 0), (0, 0), (5, 0), (3, 0)], ("faulted", 0, 3), 2)

    def test_an_argument_may_take_numbers_that_were_there(self):
        code = [("push", 2), ("call", 0, 0, 0, 3), END, END]
        self.assert_run(code, [(2, 0), (0, 0), (4, 1), (3, 0)], ("done", 2, 4), 2)
        # Nothing is left but the answer.
        self.assert_run([("push", 2), ("call", 0, 0, 0, 4), ("add",), END, END], [(2, 0), (0, 0), (4, 1), (3, 0)], ("faulted", 0, 3), 2)

    def test_numbers_of_arguments(self):
        code = [("call", 0, 1, 0, 4, 6), ("pop",), PUSH, END, ("push", 0), END, ("push", 2), END]
        for at in range(-2, 6):
            told = ("done", {1: 0, 2: 2}[at], 4) if at in (1, 2) else ("faulted", 0, 2)
            self.assert_run(code, [(2, 0), (0, 0), (4, at), (13, 0), (0, 0)], told, 2)
        # A value is no argument by name. The answer 1 is none for a command.
        code = [PUSH, ("call", 0, 1, 1, 4), ("pop",), ("jump", 4), PUSH, END]
        for at in range(-1, 4):
            self.assert_run(code, [(2, 0), (0, 0), (4, at), (3, 0)], ("faulted", 0, 3 if at == 1 else 2), 2)
        self.assert_run([PUSH, END], [(4, 1)], FAULTED)
        self.assert_run([PUSH, END], [(2, 0), (4, 1)], ("faulted", 0, 2))

    def test_the_code_around_goes_on_behind_the_pair_that_asked(self):
        code = [("call", 0, 0, 0, 2), END, ("push", 2), END]
        around = [(2, 0), (9, 7), (4, 1), (7, 1), (4, 1), (5, 1), (3, 0), (6, 1), (0, 0)]
        self.assert_run(code, around, ("done", 2, 9), 2)

    def test_calls_within_arguments(self):
        code = [("call", 0, 0, 0, 2), END, ("call", 1, 0, 0, 6), ("push", 2), ("mul",), END, PUSH, END]
        # The name 0 is answered with what its argument comes to, the name 1 with 1.
        around = [(2, 0), (0, 0), (8, -1), (10, 6), (5, 1), (3, 0), (4, 1), (3, 0)]
        self.assert_run(code, around, ("done", 2, 10), 2)
        self.assert_run(code, around[:4] + [(4, 1), (3, 0), (4, 1), (3, 0)], ("done", 2, 10), 2)
        # Behind the call of the name 1 another argument is asked, that of the last call.
        self.assert_run(code, [(2, 0), (0, 0), (4, 1), (13, 0), (0, 0)], ("done", 1, 5), 2)

    def test_exits_give_up_what_was_asked(self):
        code = [("block", 5), ("call", 0, 1, 0, 8), ("pop",), ("unblock",), ("fault",), PUSH, END, END, ("exit", 0)]
        # The argument is not answered, nor the call; the piece is.
        self.assert_run(code, [(2, 0), (0, 0), (4, 1), (1, 0)], ("done", 1, 3), 2)
        code = [("block", 5), ("call", 0, 1, 0, 9), ("pop",), ("unblock",), ("fault",), ("call", 5, 0, 0), END, END, END,
                ("call", 1, 1, 0, 10), ("exit", 0)]
        around = [(2, 0), (0, 0), (8, -6), (10, 7), (4, 1), (1, 0), (1, 0), (11, 0), (8, -4), (3, 0)]
        self.assert_run(code, around, ("done", 2, 13), 2)

    def test_exits_to_questions_that_are_over(self):
        # An argument makes a mark and is answered; the exit behind it goes to a question that is over.
        code = [("call", 0, 1, 0, 5), ("exit", 0), PUSH, END, ("fault",), ("block", 2), ("push", 0), END]
        self.assert_run(code, [(2, 0), (0, 0), (4, 1), (3, 0)], ("faulted", 0, 3), 2)
        # The same question about the argument again has a mark of its own.
        code = [("call", 0, 1, 0, 4), PUSH, END, ("fault",), ("block", 6), ("exit", 0), ("push", 0), END]
        self.assert_run(code, [(2, 0), (0, 0), (4, 1), (3, 0)], ("done", 1, 4), 2)
        self.assert_run(code, [(2, 0), (0, 0), (4, 1), (4, 1), (3, 0)], ("done", 1, 5), 2)
        # An argument that leaves its mark there each time: only the last one is that of a question that is open.
        for mark in range(3):
            code = [("call", 0, 1, 0, 4), ("pop",), PUSH, END, ("block", 9), ("call", 1, 0, 0), ("jzero", 8), ("exit", mark),
                    ("jump", 9), ("push", 0), END]
            actions = [[(4, 1), (4, 1), (4, 1), (3, 0)], [(5, 0), (3, 0)], [(5, 0), (3, 0)], [(5, 1), (3, 0)]]
            self.assert_visits(code, actions, "done" if mark == 2 else "faulted", 1 if mark == 2 else 0)
        # A mark of the first call's argument is of no use for the argument of the second call.
        code = [("call", 0, 1, 0, 6), ("pop",), ("call", 1, 1, 0, 8), ("pop",), PUSH, END, ("block", 9), ("jump", 9), ("exit", 0),
                ("push", 0), END]
        self.assert_run(code, [(2, 0), (0, 0), (4, 1), (3, 0)], ("faulted", 0, 4), 2)

    def test_marks_of_questions_that_were_given_up(self):
        # The argument makes a mark, and an exit to an outer mark takes it along.
        code = [("block", 3), ("call", 0, 1, 0, 5), ("fault",), ("exit", 0), END, ("block", 7), ("exit", 0), END]
        self.assert_run(code, [(2, 0), (0, 0), (4, 1), (3, 0)], ("faulted", 0, 2), 2)
        code = [("block", 3), ("call", 0, 1, 0, 6), ("fault",), ("block", 9), ("exit", 0), END, ("block", 8), ("exit", 0), END, PUSH, END]
        self.assert_run(code, [(2, 0), (0, 0), (4, 1), (3, 0)], ("done", 1, 3), 2)


class QuestionsTest(CpuCase):
    def test_several_questions(self):
        code = [("call", 0, 0, 0), END]
        # Within the call of the first question the second one is asked, and answered with 1; then the first one with 2.
        around = [(2, 0), (0, 0), (6, 0), (8, 1), (7, 0), (8, -1), (10, 11), (5, 1), (3, 0), (1, 0), (1, 0), (2, 0), (8, 1), (3, 0)]
        self.assert_run(code, around, ("done", 2, 17), 2)

    def test_each_question_has_its_own_things(self):
        # The second question is asked while the first one waits behind its variable, number or mark.
        self.assert_visits(code_of("e : exp |- exp : new x = e [ do { x := x + e } [ x * 2 ] ]"),
                           [[(5, 1), (3, 0)], [(2, 0), (3, 0)], [(5, 1), (3, 0)], [(5, 2), (3, 0)]], "done", 2)
        code = [CALL, CALL, ("open",), ("load", 0), ("sub",), END]
        self.assert_visits(code, [[(5, 2), (3, 0)], [(2, 0), (3, 0)], [(5, 1), (3, 0)], [(5, 0), (3, 0)]], "done", 1)
        # Each of them has nothing but its own answer on its stack.
        self.assert_visits([CALL, END, END], [[(2, 0), (3, 0)], [(5, 2), (3, 0)]], "done", 2)
        self.assert_visits([CALL, ("jzero", 3), ("pop",), PUSH, END], [[(2, 0), (3, 0)], [(5, 2), (3, 0)]], "faulted")
        self.assert_visits([("push", 2), CALL, ("jzero", 5), ("close",), END, ("open",), PUSH, END],
                           [[(2, 0), (3, 0)], [(5, 0), (3, 0)]], "faulted")
        self.assert_visits([("block", 4), CALL, ("exit", 0), END, PUSH, END], [[(2, 0), (3, 0)], [(5, 0), (3, 0)]], "done", 1)
        self.assert_visits([("block", 4), CALL, ("exit", 1), END, PUSH, END], [[(2, 0), (3, 0)], [(5, 0), (3, 0)]], "faulted")

    def test_arguments_are_those_of_the_last_call(self):
        code = [("call", 0, 0, 0, 2), END, ("push", 2), END]
        around = [(2, 0), (0, 0), (6, 0), (8, 1), (7, 0), (8, -1), (10, 11), (4, 1), (3, 0), (1, 0), (1, 0), (2, 0), (8, 1), (4, 1), (3, 0)]
        self.assert_run(code, around, ("done", 2, 18), 2)

    def test_questions_that_are_not_answered(self):
        for count in (1, 2, 23, 24, 25, 26):
            self.assert_run([PUSH, END], [(2, 0)] * count + [(0, 0)], ("done", 1, count + 1))
            # So many questions wait for a name, before the last one is answered, and then all others.
            actions = [[(2, 0), (3, 0)]] * (count - 1) + [[(5, 2), (3, 0)]]
            self.assert_visits([CALL, END], actions, "done" if count <= 24 else "faulted", 2 if count <= 24 else 0)
            # They may be given up, one after another.
            actions = [[(2, 0)]] * (count - 1) + [[(13, 0)] * count + [(5, 9), (0, 0)]]
            self.assert_visits([CALL, END], actions, "done" if count <= 24 else "faulted", 9 if count <= 24 else 0)
            actions[-1] = [(13, 0)] * (count + 1) + [(5, 9), (0, 0)]
            self.assert_visits([CALL, END], actions, "faulted")
            actions[-1] = [(13, 0)] * (count - 1) + [(5, 9), (0, 0)]
            self.assert_visits([CALL, END], actions, "faulted")
        # What is given up or answered leaves room for others.
        for last in ([(13, 0), (2, 0)], [(5, 1), (3, 0)]):
            self.assert_visits([CALL, END], [[(2, 0), (2, 0)]] * 23 + [last] + [[(13, 0)] * 24 + [(0, 0)]], "done")
            self.assert_visits([CALL, END], [[(2, 0), (2, 0)]] * 23 + [last] + [[(2, 0)]], "faulted")

    def test_questions_about_arguments_do_not_count(self):
        # The argument is the call itself, so it waits within itself.
        code = [("call", 0, 0, 0, 0), END]
        for count in (10, 23, 24, 25, 60):
            self.assert_visits(code, [[(4, 1), (3, 0)]] * count + [[(5, 1), (3, 0)]], "done", 1)
            for more in (22, 23, 24):
                actions = [[(4, 1)]] * count + [[(2, 0)]] * more + [[(13, 0)] * (more + 1) + [(5, 1), (0, 0)]]
                self.assert_visits(code, actions, "done" if more < 24 else "faulted", 1 if more < 24 else 0)

    def test_questions_that_are_given_up(self):
        # With the second question all goes that was asked in it; then the name 1 waits, in the first one.
        code = [("call", 0, 0, 0, 2), END, ("call", 1, 0, 0), END]
        self.assert_visits(code, [[(4, 1)], [(2, 0)], [(4, 1)], [(13, 0), (11, 0), (7, 1), (13, 0), (6, 1), (0, 0)]], "done", 2)
        self.assert_visits(code, [[(4, 1)], [(13, 0), (11, 0), (0, 0)]], "done", 0)
        # Behind it the first question goes on as if nothing had been.
        self.assert_visits(code, [[(4, 1), (3, 0)], [(2, 0)], [(4, 1)], [(13, 0), (5, 2), (3, 0)]], "done", 2)
        for around, told in [([(13, 0)], FAULTED), ([(2, 0), (13, 0)], ("faulted", 0, 2))]:
            self.assert_run([PUSH, END], around, told)
        self.assert_run([CALL, END], [(2, 0), (13, 0), (13, 0)], ("faulted", 0, 3), 1)
        self.assert_run([CALL, END], [(2, 0), (13, 5), (11, 0), (0, 0)], ("done", 0, 4), 1)

    def test_a_question_goes_on_behind_another_one_that_was_given_up(self):
        code = [("call", 0, 0, 0), END]
        around = [(2, 0), (0, 0), (6, 0), (8, 1), (7, 0), (8, -1), (10, 11), (13, 0), (5, 2), (3, 0), (1, 0), (2, 0)]
        self.assert_run(code, around, ("done", 2, 16), 2)


class OperationsTest(CpuCase):
    def test_ends(self):
        self.assert_run([PUSH, END], [(0, 0)], ("done", 0, 1))
        self.assert_run([PUSH, END], [(0, 7)], ("done", 0, 1))
        self.assert_run([PUSH, END], [(5, 200), (0, 0)], ("done", 200, 2))
        self.assert_run([PUSH, END], [(1, 0)], FAULTED)
        self.assert_run([PUSH, END], [(5, 1), (1, 0)], ("faulted", 0, 2))
        self.assert_run([CALL, END], [(2, 0), (0, 0)], ("faulted", 0, 2), 1)
        self.assert_run([CALL, END], [(2, 0), (5, 1), (0, 0)], ("faulted", 0, 3), 1)

    def test_numbers(self):
        for x in (-1000, -257, -256, -255, -1, 0, 1, 3, 255, 256, 257, 511, 512, 10 ** 6):
            self.assert_run([PUSH, END], [(5, x), (0, 0)], ("done", x % 256, 2))
            self.assert_run([PUSH, END], [(5, 250), (8, x), (0, 0)], ("done", (250 + x) % 256, 3))
            self.assert_run([PUSH, END], [(8, x), (8, x), (0, 0)], ("done", 2 * x % 256, 3))

    def test_cells(self):
        for x in (-8, -5, -4, -1, 0, 1, 2, 3, 4, 7, 400):
            self.assert_run([PUSH, END], [(6, x), (0, 0)], ("done", 0, 2))
            for y in (-3, 0, 1, 2, 3, 5):
                around = [(5, 9), (7, x), (5, 5), (6, y), (0, 0)]
                self.assert_run([PUSH, END], around, ("done", 9 if (x - y) % 4 == 0 else 0, 5))
        around = [(5, at) if way == 5 else (way, at) for at in range(1, 5) for way in (5, 7)]
        for at in range(1, 5):
            self.assert_run([PUSH, END], around + [(6, at), (0, 0)], ("done", at, 10))

    def test_going_on_elsewhere(self):
        self.assert_run([PUSH, END], [(9, 2), (1, 0), (0, 0)], ("done", 0, 2))
        self.assert_run([PUSH, END], [(9, 3), (0, 0), (1, 0), (9, 1)], ("done", 0, 3))
        self.assert_run([PUSH, END], [(10, 2), (1, 0), (0, 0)], ("done", 0, 2))
        for value in (1, 2, 255):
            self.assert_run([PUSH, END], [(5, value), (10, 3), (0, 0), (1, 0)], ("done", value, 3))
        self.assert_run([PUSH, END], [(5, 256), (10, 3), (1, 0), (0, 0)], ("done", 0, 3))

    def test_indexes_that_are_not_there(self):
        for x in (-300, -2, -1, 2, 3, 400):
            self.assert_run([PUSH, END], [(9, x), (0, 0)], FAULTED)
            self.assert_run([PUSH, END], [(10, x), (0, 0)], FAULTED)
            self.assert_run([CALL, END], [(2, 0), (0, 0)], FAULTED, x)
            # An entry that is not needed does no harm.
            self.assert_run([PUSH, END], [(2, 0), (0, 0)], ("done", 1, 2), x)
        self.assert_run([PUSH, END], [], ("faulted", 0, 0))
        self.assert_run([PUSH, END], [(5, 1)], FAULTED)
        self.assert_run([PUSH, END], [(2, 0)], FAULTED)
        self.assert_run([PUSH, END], [(5, 1), (5, 2), (5, 3)], ("faulted", 0, 3))

    def test_other_operations(self):
        for operation in (-256, -14, -1, 14, 15, 16, 255, 256, 258, 10 ** 9):
            self.assert_run([PUSH, END], [(operation, 0), (0, 0)], FAULTED)
            self.assert_run([PUSH, END], [(9, 2), (operation, 0), (0, 0)], ("done", 0, 2))

    def test_answers(self):
        for result, most in ((0, 2), (1, 0)):
            for value in (0, 1, 2, 3, 4, 254, 255):
                told = ("done", value, 4) if value <= most else ("faulted", 0, 3)
                self.assert_run([("call", 0, result, 0), END], [(2, 0), (0, 0), (5, value), (3, 0)], told, 2)
                self.assert_run([("call", 0, result, 0), END], [(2, 0), (0, 0), (5, value), (3, 99)], told, 2)
        self.assert_run([PUSH, END], [(3, 0)], FAULTED)
        self.assert_run([PUSH, END], [(2, 0), (3, 0)], ("faulted", 0, 2))
        # A is the number of the name, if nothing else is done.
        self.assert_run([("call", 0, 0, 0), END], [(2, 0), (0, 0), (3, 0)], ("done", 1, 3), 2)
        self.assert_run([("call", 2, 0, 0), END], [(2, 0), (0, 0), (3, 0)], ("faulted", 0, 2), 2)

    def test_names_and_values(self):
        self.assert_run([PUSH, END], [(5, 1), (11, 0), (0, 0)], ("done", 0, 3))
        self.assert_run([PUSH, END], [(2, 0), (11, 0), (0, 0)], ("done", 0, 3))
        self.assert_run([PUSH, END], [(12, 1), (0, 0)], FAULTED)
        self.assert_run([PUSH, END], [(2, 0), (12, 1), (0, 0)], ("faulted", 0, 2))
        for at in (-1, 0, 1, 2, 3):
            told = ("done", at, 4) if at in (1, 2) else ("faulted", 0, 2)
            self.assert_run([PUSH, ("push", 2), ("call", 0, 0, 2), END], [(2, 0), (0, 0), (12, at), (13, 0), (0, 0)], told, 2)

    def test_what_is_left_of_a_question(self):
        # A and the cells stay when the piece is asked, answered and given up.
        code = [("call", 2, 0, 0), END]
        around = [(5, 7), (7, 1), (2, 0), (7, 2), (6, 1), (0, 0), (7, 3), (5, 1), (3, 0)]
        self.assert_run(code, around, ("done", 7, 9), 6)
        self.assert_run(code, around[:3] + [(6, 3), (0, 0), (0, 0), (7, 3), (5, 1), (3, 0)], ("done", 3, 8), 6)
        self.assert_run(code, around[:3] + [(6, 1), (0, 0), (0, 0), (13, 0), (9, 4)], ("done", 3, 6), 6)


class StepsTest(CpuCase):
    def test_pairs(self):
        # 25 times 256 rounds of three pairs; a cell counts them.
        around = [(8, 1), (10, 3), (9, 0), (6, 0), (8, 1), (7, 0), (8, -25), (10, 10), (5, 0), (9, 0)]
        made = run_code([PUSH, END], around + [(0, 0)], 0)
        self.assertEqual(made, ("done", 0, 25 * (3 * 256 - 1 + 5 + 2) - 2 + 1))
        for count in range(19997, 20004):
            padded = around + [(5, 0)] * (count - made[2]) + [(0, 0)]
            if count <= 20000:
                self.assert_run([PUSH, END], padded, ("done", 0, count))
            else:
                self.assertIs(error_of(run_code, [PUSH, END], padded, 0), TooLarge)
            # Going on where nothing is comes before the bound.
            if count <= 20001:
                self.assert_run([PUSH, END], padded[:-1], ("faulted", 0, count - 1))
            else:
                self.assertIs(error_of(run_code, [PUSH, END], padded[:-1], 0), TooLarge)

    def test_questions_are_pairs(self):
        self.assertIs(error_of(run_code, [PUSH, END], [(2, 0), (9, 0)], 0), TooLarge)
        self.assertIs(error_of(run_code, [PUSH, END], [(9, 0)], 0), TooLarge)
        self.assertIs(error_of(run_code, [CALL, END], [(2, 0), (13, 0), (9, 0)], 1), TooLarge)
        # Two calls for each question, with a pair for each of them.
        code = [("call", 0, 1, 0), ("pop",)] * 9 + [PUSH, END]
        self.assert_run(code, [(2, 0), (0, 0), (5, 0), (3, 0)], ("done", 1, 20), 2)

    def test_long_answers(self):
        # The piece itself begins 19 calls for each question, so 20000 pairs are reached within it.
        code = [("call", 0, 1, 0), ("pop",)] * 199 + [PUSH, END]
        self.assertIs(error_of(run_code, code, [(2, 0), (9, 0), (5, 0), (3, 0)], 2), TooLarge)


class NeverTest(CpuCase):
    def test_stops(self):
        self.assert_run([("stop",)], [(5, 3), (2, 0), (0, 0)], ("never", 0, 2))
        self.assert_run([CALL, ("stop",)], [(2, 0), (0, 0), (5, 0), (3, 0)], ("never", 0, 3), 2)
        self.assert_run([("call", 0, 0, 0, 2), END, ("stop",)], [(2, 0), (0, 0), (4, 1)], ("never", 0, 2), 2)

    def test_repetitions(self):
        self.assert_asked([
            ([("jump", 0)], ("never", 0, 1)), ([PUSH, ("pop",), ("jump", 0)], ("never", 0, 1)),
            ([PUSH, ("open",), ("jump", 2)], ("never", 0, 1)), ([PUSH, ("open",), ("close",), ("jump", 0)], ("never", 0, 1)),
            ([("block", 1), ("unblock",), ("jump", 0)], ("never", 0, 1)), ([("block", 0), ("exit", 0)], ("never", 0, 1)),
            ([PUSH, ("open",), ("load", 0), PUSH, ("add",), ("store", 0), ("jump", 2)], ("never", 0, 1)),
            # Something is another one each time, until there is too much of it.
            ([PUSH, ("jump", 0)], FAULTED), ([PUSH, ("open",), ("jump", 0)], FAULTED), ([("block", 1), ("jump", 0)], FAULTED),
        ])

    def test_repetitions_of_another_question(self):
        # The exit goes back to a question that is run in the same way again and again, without a move.
        code = [("block", 3), ("call", 0, 1, 0, 5), END, ("jump", 3), END, ("exit", 0)]
        self.assert_run(code, [(2, 0), (0, 0), (4, 1)], ("never", 0, 2), 2)
        code = [("block", 2), ("jump", 3), ("jump", 2), ("call", 0, 1, 0, 4), ("exit", 0)]
        self.assert_run(code, [(2, 0), (0, 0), (4, 1)], ("never", 0, 2), 2)

    def test_moves_in_between(self):
        # With a move in between nothing is a repetition.
        code = [("call", 0, 0, 0), ("jzero", 0), PUSH, END]
        around = [(2, 0), (0, 0), (6, 0), (8, 1), (7, 0), (8, -200), (10, 9), (5, 0), (3, 0), (5, 1), (3, 0)]
        self.assert_run(code, around, ("done", 1, 7 * 200 + 2), 2)
        self.assertIs(error_of(run_code, code, [(2, 0), (0, 0), (5, 0), (3, 0)], 2), TooLarge)
        # An argument that is answered is a move, too.
        code = [("call", 0, 0, 0, 2), END, PUSH, END]
        self.assertIs(error_of(run_code, code, [(2, 0), (0, 0), (4, 1), (9, 2)], 2), TooLarge)

    def test_the_same_values_of_marks(self):
        # The marks differ in their places alone, so this is no repetition at once.
        code = [("block", 2), ("jump", 5), ("unblock",), PUSH, END, ("exit", 0)]
        self.assert_asked([(code, FAULTED)])
        code = [("block", 3), ("jump", 5), ("fault",), PUSH, END, ("unblock",), ("block", 3), ("exit", 0)]
        self.assert_asked([(code, 1)])

    def test_as_many_instructions_as_there_may_be(self):
        for count in (1998, 1999, 2000, 2001, 2002):
            code, begun = counting_code(count)
            self.assertEqual(begun, count)
            if count <= 2000:
                self.assert_run(code, ONE_QUESTION, ("done", 1, 2))
            else:
                self.assertIs(error_of(run_code, code, ONE_QUESTION, 0), TooLarge)
                self.assertEqual(result_of(code, ONE_QUESTION, 0), "instructions")
            for last, told in ((("stop",), ("never", 0, 1)), (("fault",), FAULTED), (CALL, ("done", 1, 3))):
                around = [(2, 0), (13, 0), (0, 0)]
                if count <= 2000:
                    self.assert_run(code[:-1] + [last], around, told, 1)
                else:
                    self.assertIs(error_of(run_code, code[:-1] + [last], around, 1), TooLarge)
            # Going on where nothing is begins no instruction.
            if count <= 2001:
                self.assert_run(code[:-1], ONE_QUESTION, FAULTED)
            # The last one of them goes on where it stands: the next one is begun as it was.
            looping = code[:-1] + [("jump", len(code) - 1)]
            if count + 1 <= 2000:
                self.assert_run(looping, ONE_QUESTION, ("never", 0, 1))
            else:
                self.assertIs(error_of(run_code, looping, ONE_QUESTION, 0), TooLarge)

    def test_each_run_without_a_move_counts_anew(self):
        code, begun = counting_code(1990)
        # Behind a call it is run again.
        twice = code[:-1] + [("call", 0, 1, 0)]
        shifted = [(each[0], each[1] + len(twice)) if each[0] in ("jump", "jzero") else each for each in code]
        self.assert_run(twice + shifted, [(2, 0), (0, 0), (5, 0), (3, 0)], ("done", 1, 4), 2)
        without_call = twice[:-1] + [("push", 0)] + shifted
        self.assertIs(error_of(run_code, without_call, ONE_QUESTION, 0), TooLarge)


def counting_code(count):
    """Code that begins about so many instructions and then ends with 1, and how many it begins."""
    # Four variables count to 81; for each count there are some numbers that are pushed and popped.
    def made(within, last):
        code = [("push", 0), ("open",)] * 4
        top = len(code)
        code += [PUSH, ("pop",)] * within
        for at in range(4):
            code += [("load", at), PUSH, ("add",), ("store", at), ("load", at), ("jzero", len(code) + 7), ("jump", top)]
        return code + [("push", 0), ("pop",)] * (last // 2) + [("jump", len(code) + last // 2 * 2 + 1)] * (last & 1) + [PUSH, END]

    def begun_by(code):
        place, begun, numbers, variables = 0, 0, [], []
        while code[place] != END:
            word, *entries = code[place]
            begun, place = begun + 1, place + 1
            if word == "push":
                numbers.append(entries[0])
            elif word == "pop":
                numbers.pop()
            elif word == "open":
                variables.append(numbers.pop())
            elif word == "load":
                numbers.append(variables[entries[0]])
            elif word == "store":
                variables[entries[0]] = numbers.pop()
            elif word == "add":
                numbers.append((numbers.pop() + numbers.pop()) % 3)
            elif word == "jump" or numbers.pop() == 0:
                place = entries[0]
        return begun + 1

    for within in range(20):
        missing = count - begun_by(made(within, 0))
        if 0 <= missing < 200:
            code = made(within, missing)
            return code, begun_by(code)
    raise AssertionError(count)


class WrongCodeTest(unittest.TestCase):
    def test_code_that_is_not_well_formed(self):
        for code in [[], [("end", 0)], [("push", 3)], [("jump", 1)], [("nothing",)], [END] * 601, [()], [("call", 0, 0, 0, 1)]]:
            self.assertFalse(is_code(code))
            for around in ([], [(0, 0)], [(9, 0)], [(2, 0), (0, 0)]):
                # It is told ahead of a run that is too long.
                self.assertIs(error_of(run_code, code, around, 0), BadForm)


class ComparedTest(unittest.TestCase):
    def compare(self, told, code, around, entry):
        before = copy.deepcopy((code, around))
        expected = result_of(code, around, entry)
        if isinstance(expected, tuple):
            self.assertEqual(run_code(code, around, entry), expected, (code, around, entry))
        else:
            self.assertIs(error_of(run_code, code, around, entry), TooLarge, (code, around, entry))
        self.assertEqual((code, around), before)
        what = (expected[0], min(expected[2] // 10, 2)) if isinstance(expected, tuple) else expected
        told[what] = told.get(what, 0) + 1

    def test_code_at_random(self):
        chance = random.Random(80)
        told = {}
        for _ in range(600):
            code = random_code(chance, chance.randrange(1, 16))
            self.assertTrue(is_code(code))
            for around in (random_around(chance), visiting_around(chance)):
                self.compare(told, code, around, chance.choice([2, 2, 2, 3]))
        self.assertGreater(told[("faulted", 0)], 100)

    def test_code_of_pieces(self):
        chance = random.Random(81)
        told = {}
        made = playful_pieces(120, 5, 82) + leaving_pieces(120, 6, 83) + lively_pieces(40, 6, 84)
        for piece in made:
            if error_of(check_piece, piece) is None and error_of(compile_piece, piece) is None:
                code = compile_piece(piece)
                for _ in range(4):
                    self.compare(told, code, visiting_around(chance), 2)
                self.compare(told, code, random_around(chance), chance.randrange(4))
                # One instruction is another one.
                code[chance.randrange(len(code))] = random_code(chance, len(code))[0]
                self.compare(told, code, visiting_around(chance), 2)
        for result in ("done", "faulted"):
            for steps in range(3):
                self.assertGreater(told[(result, steps)], 10)
        self.assertGreater(told[("never", 0)], 10)


def random_code(chance, size):
    """So many instructions, well formed."""
    words = ("end end push push push push pop open open close load load store add sub mul equal less jump jzero call call call"
             " block block unblock exit exit").split()
    code = []
    for _ in range(size):
        word = chance.choice(words) if chance.random() < 0.95 else chance.choice(["stop", "fault"])
        entries = []
        if word == "push":
            entries = [chance.randrange(3)]
        elif word in ("load", "store", "exit"):
            entries = [chance.choice([0, 0, 0, 1, 2, 41])]
        elif word in ("jump", "jzero", "block"):
            entries = [chance.randrange(size)]
        elif word == "call":
            places = [chance.randrange(size) for _ in range(chance.randrange(3))]
            entries = [chance.choice([0, 1, 2, 255]), chance.randrange(2), chance.choice([0, 0, 0, 1, 2])] + places
        code.append((word, *entries))
    return code


def random_around(chance):
    """Some pairs, which seldom go on for long."""
    size = chance.randrange(3, 12)
    around = [(2, 0)]
    while len(around) < size:
        operation = chance.choice([0, 2, 3, 3, 3, 4, 4, 5, 6, 7, 8, 10, 11, 12, 13, chance.randrange(-1, 15)])
        around.append((operation, chance.choice([0, 1, 1, 2, chance.randrange(-1, size + 1), chance.randrange(-300, 600)])))
    return around


def visiting_around(chance):
    """Pairs with an entry that counts how often it is come to, and then gives up."""
    def some(many):
        found = []
        for _ in range(many):
            operation = chance.choice([2, 3, 3, 3, 4, 4, 4, 5, 5, 11, 12, 13])
            found += [(5, chance.choice([0, 0, 1, 2]))] * (operation == 3) + [(operation, chance.choice([1, 1, 2]))]
        return found

    most = chance.choice([2, 4, 8, 16])
    visits = some(chance.randrange(1, 6))
    last = 7 + len(visits) + 1
    around = [(2, 0), (9, last + 1), (6, 0), (8, 1), (7, 0), (8, -most), (10, last)] + visits + [(9, 2)]
    return around + [(13, 0), (9, last) if chance.random() < 0.5 else (2, 0)] + some(chance.randrange(3)) + [(0, 0)]


if __name__ == "__main__":
    unittest.main()
