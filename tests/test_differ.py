"""[3.4]: the first word by which two machines differ."""

import copy
import unittest

from doppelganger.automata import accepts, least_machine
from doppelganger.differ import difference
from doppelganger.errors import NotAllowed, Same
from helpers import error_of
from machines import (
    EVEN, NONE, THREE, chain, classes, doubled, has_word, random_machine, random_machines, shuffled, with_end, with_move,
    words,
)

SOME = random_machines(300, 1)


def join(first, second):
    """Both machines in one, without a first state; the states of the second one follow."""
    shift = len(first[1])
    moves = tuple(tuple(target if target == -1 else target + shift for target in entry) for entry in second[1])
    return (first[0], first[1] + moves, first[2] + second[2])


def are_same(first, second):
    """Whether two machines accept the same words, by the classes of their states."""
    found = classes(join(first, second))
    starts = [0 if first[1] else -1, len(first[1]) if second[1] else -1]
    return found[starts[0]] == found[starts[1]]


def first_word(first, second, most=9):
    """The first word that one machine accepts and the other one does not, by looking at all of them."""
    for word in words(first[0], most):
        if has_word(first, word) != has_word(second, word):
            return word, has_word(first, word)
    return None


class DifferenceTest(unittest.TestCase):
    def assert_first(self, first, second):
        with self.subTest(first=first, second=second):
            if are_same(first, second):
                self.assertIs(error_of(difference, first, second), Same)
                self.assertIs(error_of(difference, second, first), Same)
                return 0
            expected = first_word(first, second)
            self.assertEqual(difference(first, second), expected)
            self.assertEqual(difference(second, first), (expected[0], not expected[1]))
            self.assertIs(difference(first, second)[1], expected[1])
        return 1

    def test_one_other_end(self):
        found = 0
        for machine in SOME:
            for state in range(len(machine[1])):
                found += self.assert_first(machine, with_end(machine, state))
        self.assertGreater(found, 200)

    def test_one_other_move(self):
        found = 0
        for at, machine in enumerate(SOME):
            for state in range(len(machine[1])):
                for letter in range(machine[0]):
                    target = (at + state + letter) % (len(machine[1]) + 1) - 1
                    found += self.assert_first(machine, with_move(machine, state, letter, target))
        self.assertGreater(found, 100)

    def test_any_two(self):
        found = 0
        for first, second in zip(SOME, SOME[1:] + SOME[:1]):
            if first[0] == second[0]:
                found += self.assert_first(first, second)
            else:
                self.assertIs(error_of(difference, first, second), NotAllowed)
        self.assertGreater(found, 40)

    def test_the_same(self):
        for at, machine in enumerate(SOME + [EVEN, THREE, NONE]):
            for other in (machine, least_machine(machine), shuffled(machine, at), doubled(machine)):
                self.assertIs(error_of(difference, machine, other), Same)
                self.assertIs(error_of(difference, other, machine), Same)

    def test_the_first_of_several(self):
        all_words = (2, ((0, 0),), (True,))
        for accepted, expected in [(["1", "00"], [1]), (["00", "01", "10"], [0, 0]), (["10", "01"], [0, 1]),
                                   (["11", "100", "000"], [1, 1])]:
            # The second machine accepts these words of 0 and 1; the first one accepts none.
            nodes = sorted({word[:at] for word in accepted for at in range(len(word) + 1)}, key=lambda w: (len(w), w))
            moves = tuple(tuple(nodes.index(word + each) if word + each in nodes else -1 for each in "01") for word in nodes)
            machine = (2, moves, tuple(word in accepted for word in nodes))
            self.assertEqual(difference((2, (), ()), machine), (expected, False))
            self.assertEqual(difference(machine, (2, ((-1, -1),), (False,))), (expected, True))
            self.assertEqual(difference(all_words, machine), ([], True))

    def test_other_letters(self):
        for first, second in [(EVEN, (2, (), ())), (NONE, (0, (), ())), ((2, (), ()), (1, (), ())),
                              ((0, ((),), (True,)), (1, ((0,),), (True,)))]:
            self.assertIs(error_of(difference, first, second), NotAllowed)
            self.assertIs(error_of(difference, second, first), NotAllowed)

    def test_without_states(self):
        self.assertIs(error_of(difference, NONE, NONE), Same)
        self.assertIs(error_of(difference, NONE, (1, ((0,),), (False,))), Same)
        self.assertEqual(difference(EVEN, NONE), ([], True))
        self.assertEqual(difference(NONE, with_end(with_end(EVEN, 0), 1)), ([0], False))
        self.assertIs(error_of(difference, (0, (), ()), (0, ((),), (False,))), Same)
        self.assertEqual(difference((0, (), ()), (0, ((),), (True,))), ([], False))

    def test_long_words(self):
        # Loops of 400 and of 399 states first differ behind 399 letters.
        self.assertEqual(difference(chain(1, 400, True), chain(1, 399, True)), ([0] * 399, False))
        self.assertEqual(difference(chain(3, 399), (3, (), ())), ([0] * 399, True))
        ends = [at % 2 == 0 or at == 397 for at in range(400)]
        machine = (1, tuple(((at + 1) % 400,) for at in range(400)), tuple(ends))
        self.assertEqual(difference(machine, EVEN), ([0] * 397, True))

    def test_large_machines(self):
        for at in range(4):
            machine = random_machine(f"differ {at}", 4, 400, 0, 0.5)
            other = doubled(random_machine(f"differ {at}", 4, 200, 0, 0.5))
            self.assertIs(error_of(difference, machine, shuffled(machine, at)), Same)
            word, has = difference(machine, other)
            self.assertEqual((accepts(machine, word), accepts(other, word)), (has, not has))

    def test_a_word_may_be_changed(self):
        before = copy.deepcopy((THREE, EVEN))
        other = with_end(EVEN, 1)
        word, _ = difference(THREE, other)
        word.append(5)
        word[0] = 3
        self.assertEqual(difference(THREE, other), ([0], False))
        self.assertEqual((THREE, EVEN), before)


if __name__ == "__main__":
    unittest.main()
