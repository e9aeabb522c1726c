"""[3.7], [3.8]: machines of the words of both, of either, and without hidden letters."""

import copy
import unittest

from doppelganger.automata import check_machine, least_machine
from doppelganger.combine import both, either, hide
from doppelganger.errors import NotAllowed, TooLarge
from helpers import error_of
from machines import EVEN, NONE, THREE, chain, doubled, has_word, plain_least, random_machines, shuffled, words

SOME = random_machines(250, 4)
PAIRS = [(first, second) for first, second in zip(SOME, SOME[7:] + SOME[:7]) if first[0] == second[0]]


def machine(letters, moves, ends):
    """A machine from a dict {(state, letter): state}, with the numbers of its accepting states."""
    count = 1 + max([0, *ends] + [max(state, target) for (state, _), target in moves.items()])
    rows = tuple(tuple(moves.get((state, letter), -1) for letter in range(letters)) for state in range(count))
    return (letters, rows, tuple(state in ends for state in range(count)))


def loop(length, before, marks, everywhere):
    """Letters 0 to 3: `before` states, then a loop by the letter 0.

    From the first state of the loop the letters `marks` lead to the end, and from all of its states
    the letters `everywhere`.
    """
    end = before + length
    moves = {(state, 0): state + 1 for state in range(end - 1)}
    moves[(end - 1, 0)] = before
    for letter in marks:
        moves[(before, letter)] = end
    for state in range(before, end):
        for letter in everywhere:
            moves[(state, letter)] = end
    return machine(4, moves, [end])


def hidden_words(made, hidden, most):
    """The words up to a length that a machine accepts when the hidden letters are left out."""
    found = set()
    for length in range(most + 1):
        for word in words(made[0], length):
            if len(word) == length and has_word(made, word):
                found.add(tuple(letter for letter in word if letter not in hidden))
    return found


class BothAndEitherTest(unittest.TestCase):
    def test_words(self):
        for first, second in PAIRS:
            with self.subTest(first=first, second=second):
                one, other = both(first, second), either(first, second)
                for word in words(first[0], 5):
                    self.assertEqual(has_word(one, word), has_word(first, word) and has_word(second, word))
                    self.assertEqual(has_word(other, word), has_word(first, word) or has_word(second, word))
                self.assertEqual(plain_least(one), one)
                self.assertEqual(plain_least(other), other)
                self.assertIsNone(check_machine(one))
                self.assertIsNone(check_machine(other))

    def test_order_and_form_do_not_matter(self):
        for at, (first, second) in enumerate(PAIRS):
            for function in (both, either):
                expected = function(first, second)
                self.assertEqual(function(second, first), expected)
                self.assertEqual(function(shuffled(first, at), doubled(second)), expected)
                self.assertEqual(function(first, first), least_machine(first))

    def test_without_states(self):
        for made in SOME:
            nothing = (made[0], (), ())
            self.assertEqual(both(made, nothing), nothing)
            self.assertEqual(both(nothing, made), nothing)
            self.assertEqual(either(made, nothing), least_machine(made))
            self.assertEqual(either(nothing, made), least_machine(made))
        self.assertEqual(either(NONE, NONE), NONE)
        self.assertEqual(both(NONE, NONE), NONE)

    def test_other_letters(self):
        for first, second in [(EVEN, (2, (), ())), (NONE, (0, (), ())), (THREE, (200, (), ())),
                              (loop(32, 0, [1], []), EVEN)]:
            for function in (both, either):
                self.assertIs(error_of(function, first, second), NotAllowed)
                self.assertIs(error_of(function, second, first), NotAllowed)

    def test_examples(self):
        all_words = (1, ((0,),), (True,))
        self.assertEqual(both(EVEN, all_words), EVEN)
        self.assertEqual(either(EVEN, all_words), all_words)
        self.assertEqual(either(chain(1, 1), chain(1, 3)), (1, ((1,), (2,), (3,), (-1,)), (False, True, False, True)))
        self.assertEqual(both(chain(1, 1), chain(1, 3)), NONE)

    def test_pairs_of_both(self):
        # Words of the first one end in 1, those of the second one in 2, so that none is accepted by both.
        for before in (0, 1, 2):
            # What stands before the loops is the same as their last states.
            first, second = loop(32, before, [1], []), loop(125, before, [2], [])
            self.assertEqual(both(first, second), (4, (), ()))
            self.assertEqual(both(second, first), (4, (), ()))
        first, second = loop(32, 0, [1], []), loop(125, 0, [2], [])
        # One more pair: the end of the first one and the first state of the second one.
        more = with_letter(first, 0, 3, 32), with_letter(second, 0, 3, 0)
        self.assertIs(error_of(both, *more), TooLarge)

    def test_states_that_are_not_needed_make_no_pairs(self):
        first, second = loop(32, 0, [1], []), loop(125, 0, [2], [])
        self.assertEqual(both(doubled(first), doubled(second)), (4, (), ()))

    def test_pairs_of_either(self):
        # Pairs of the loops, three with an end, and as many as there are states before.
        for before, error in [(0, None), (1, None), (2, TooLarge), (3, TooLarge)]:
            first, second = loop(108, before, [1], [2]), loop(37, before, [2], [1])
            with self.subTest(before):
                self.assertIs(error_of(either, first, second), error)
                self.assertIs(error_of(either, second, first), error)
        first, second = loop(108, 1, [1], [2]), loop(37, 1, [2], [1])
        self.assertEqual(either(first, second), loop(1, 1, [], [1, 2]))
        self.assertEqual(either(doubled(first), second), loop(1, 1, [], [1, 2]))

    def test_pairs_with_nowhere_count_for_either_alone(self):
        first, second = loop(32, 0, [1], []), loop(125, 0, [2], [])
        self.assertIsNone(error_of(both, first, second))
        self.assertIs(error_of(either, first, second), TooLarge)

    def test_states_of_both(self):
        found = both(chain(1, 16, True), chain(1, 25, True))
        self.assertEqual(found, chain(1, 400, True))
        self.assertIs(error_of(both, chain(1, 3, True), chain(1, 134, True)), TooLarge)
        first = machine(2, {(0, 1): 1} | {(1 + at, 0): 1 + (at + 1) % 16 for at in range(16)}, [1])
        second = machine(2, {(0, 1): 1} | {(1 + at, 0): 1 + (at + 1) % 25 for at in range(25)}, [1])
        self.assertIs(error_of(both, first, second), TooLarge)
        third = machine(2, {(0, 1): 1} | {(1 + at, 0): 1 + (at + 1) % 57 for at in range(57)}, [1])
        fourth = machine(2, {(0, 1): 1} | {(1 + at, 0): 1 + (at + 1) % 7 for at in range(7)}, [1])
        self.assertEqual(len(both(third, fourth)[1]), 400)

    def test_states_of_either(self):
        def other(length):
            return machine(2, {(at, 1): at + 1 for at in range(length)}, [length])
        self.assertEqual(len(either(chain(2, 200), other(200))[1]), 400)
        self.assertIs(error_of(either, chain(2, 200), other(201)), TooLarge)
        self.assertEqual(len(either(chain(1, 399), chain(1, 20))[1]), 400)


def with_letter(made, state, letter, target):
    letters, moves, accepting = made
    entry = moves[state][:letter] + (target,) + moves[state][letter + 1:]
    return (letters, moves[:state] + (entry,) + moves[state + 1:], accepting)


def two_loops(first, second, marks=False):
    """A machine that goes into one of two loops by the hidden letters 3 and 4."""
    moves = {(0, 3): 1, (0, 4): 1 + first}
    end = 1 + first + second
    for start, length, mark, everywhere in [(1, first, 1, 2), (1 + first, second, 2, 1)]:
        for at in range(length):
            moves[(start + at, 0)] = start + (at + 1) % length
            if marks:
                moves[(start + at, everywhere)] = end
        moves[(start, mark)] = end
    return machine(5, moves, [end])


class HideTest(unittest.TestCase):
    def test_words(self):
        for at, made in enumerate(SOME):
            letters = range(made[0])
            for hidden in ([], list(letters)[:1], list(letters)[1:], list(letters)):
                with self.subTest(machine=made, hidden=hidden):
                    found = hide(made, hidden)
                    self.assertEqual(plain_least(found), found)
                    self.assertIsNone(check_machine(found))
                    self.assertEqual(found[0], made[0])
                    self.assertEqual(hide(shuffled(made, at), hidden), found)
                    expected = hidden_words(made, hidden, 6)
                    for word in expected:
                        self.assertTrue(has_word(found, list(word)))
                    # Six states at most: what is accepted with two letters left needs no more than 20 letters.
                    for word in words(made[0], 2):
                        self.assertEqual(has_word(found, word), comes_about(made, hidden, word))

    def test_no_letters_and_all_letters(self):
        for made in SOME:
            self.assertEqual(hide(made, []), least_machine(made))
            found = hide(made, list(range(made[0])))
            some = least_machine(made)[1] != ()
            self.assertEqual(found, (made[0], ((-1,) * made[0],), (True,)) if some else (made[0], (), ()))

    def test_letters_twice(self):
        for made in SOME:
            if made[0] >= 2:
                self.assertEqual(hide(made, [1, 0, 1, 1]), hide(made, [0, 1]))
                self.assertEqual(hide(made, [1, 1]), hide(made, [1]))

    def test_letters_that_there_are_not(self):
        for made in (EVEN, NONE, THREE, (0, (), ()), (0, ((),), (True,)), (1, ((0,),), (False,))):
            for hidden in ([1], [-1], [0, 1], [0, -1], [200], [1, 0]):
                self.assertIs(error_of(hide, made, hidden), NotAllowed)
        self.assertEqual(hide((0, ((),), (True,)), []), (0, ((),), (True,)))
        # It comes before the number of sets.
        self.assertIs(error_of(hide, two_loops(16, 25), [3, 4, 5]), NotAllowed)

    def test_the_list_stays(self):
        for hidden in ([1, 0, 1], [], [0], [4, 3]):
            made = two_loops(2, 3)
            before = copy.deepcopy((made, hidden))
            hide(made, hidden)
            self.assertEqual((made, hidden), before)

    def test_sets(self):
        # The first set, those of the loops, and the one of the end.
        for first, second, error in [(2, 199, None), (7, 57, TooLarge), (3, 133, TooLarge), (16, 25, TooLarge),
                                     (100, 200, None)]:
            made = two_loops(first, second)
            self.assertIs(error_of(hide, made, [3, 4]), error)
            self.assertIs(error_of(hide, doubled(made), [3, 4]), error)
        self.assertEqual(len(hide(two_loops(2, 199), [3, 4])[1]), 399)

    def test_many_sets_of_a_small_result(self):
        for first, second, error in [(2, 199, None), (7, 57, TooLarge), (4, 100, None)]:
            made = two_loops(first, second, True)
            self.assertIs(error_of(hide, made, [3, 4]), error)
        # The first state of the first loop can be left by the letter 1 like all others.
        self.assertLess(len(hide(two_loops(2, 199, True), [3, 4])[1]), 5)

    def test_a_chain_of_hidden_letters(self):
        made = machine(2, {(at, at % 2): at + 1 for at in range(300)}, [300])
        self.assertEqual(hide(made, [0]), machine(2, {(at, 1): at + 1 for at in range(150)}, [150]))


def comes_about(made, hidden, word):
    """Whether a word comes about if the hidden letters are left out, by all sets of states."""
    def closed(states):
        states = set(states)
        while True:
            more = {made[1][state][letter] for state in states for letter in hidden} - {-1} - states
            if not more:
                return states
            states |= more

    states = closed([0] if made[1] else [])
    for letter in word:
        states = closed({made[1][state][letter] for state in states} - {-1}) if letter not in hidden else set()
    return any(made[2][state] for state in states)


if __name__ == "__main__":
    unittest.main()
