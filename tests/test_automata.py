"""[3.1] to [3.3]: machines, their words and their least machines."""

import itertools
import unittest

from doppelganger.automata import accepts, check_machine, count_words, least_machine
from doppelganger.errors import NotAllowed
from helpers import error_of
from machines import (
    EVEN, NONE, THREE, chain, doubled, has_word, plain_least, random_machine, random_machines, shuffled, with_end, words,
)

SOME = random_machines(600) + [EVEN, THREE, NONE, (0, (), ()), (0, ((),), (True,)), (0, ((),), (False,)), (3, (), ())]


class CheckTest(unittest.TestCase):
    def assert_allowed(self, machine):
        self.assertIsNone(check_machine(machine))

    def assert_refused(self, machine):
        with self.subTest(str(machine)[:100]):
            self.assertIs(error_of(check_machine, machine), NotAllowed)

    def test_machines(self):
        for machine in SOME:
            self.assert_allowed(machine)

    def test_letters(self):
        for letters in (0, 1, 199, 200):
            self.assert_allowed((letters, (), ()))
            self.assert_allowed((letters, ((-1,) * letters,), (True,)))
        for letters in (-1, -200, 201, 1000):
            self.assert_refused((letters, (), ()))
            self.assert_refused((letters, ((-1,) * max(letters, 0),), (True,)))

    def test_states(self):
        for count in (399, 400):
            self.assert_allowed((1, ((-1,),) * count, (True,) * count))
            self.assert_allowed((1, ((count - 1,),) * count, (False,) * count))
        for count in (401, 500):
            self.assert_refused((1, ((-1,),) * count, (True,) * count))
            self.assert_refused((0, ((),) * count, (False,) * count))

    def test_entries(self):
        for at in range(3):
            for entry in [(), (0,), (0, 0, 0), (0, 3), (3, 0), (-2, 0), (0, -2), (1000, 0), (0, -1000)]:
                moves = [(0, 1), (1, 2), (-1, -1)]
                moves[at] = entry
                self.assert_refused((2, tuple(moves), (True, False, True)))
            for entry in [(0, 0), (2, 2), (-1, 2), (2, -1)]:
                moves = [(0, 1), (1, 2), (-1, -1)]
                moves[at] = entry
                self.assert_allowed((2, tuple(moves), (True, False, True)))

    def test_accepting(self):
        for accepting in [(), (True,), (True, False), (True,) * 4]:
            self.assert_refused((1, ((0,), (1,), (2,)), accepting))
        self.assert_refused((1, (), (True,)))
        self.assert_refused((1, ((0,),), ()))

    def test_results_are_machines(self):
        for machine in SOME:
            self.assert_allowed(least_machine(machine))


class AcceptsTest(unittest.TestCase):
    def test_all_words(self):
        for machine in SOME:
            for word in words(machine[0], 4):
                self.assertIs(accepts(machine, word), has_word(machine, word), (machine, word))

    def test_the_empty_word(self):
        for machine, expected in [(EVEN, True), (with_end(EVEN, 0), False), (NONE, False), ((0, ((),), (True,)), True)]:
            self.assertIs(accepts(machine, []), expected)

    def test_integers_that_are_no_letters(self):
        all_words = (2, ((0, 0),), (True,))
        for word in [[-1], [2], [0, -1], [0, 2], [-1, 0], [2, 0], [0, 1, 100], [-2], [-100]]:
            self.assertIs(accepts(all_words, word), False)
            self.assertIs(accepts((2, (), ()), word), False)
        self.assertIs(accepts(all_words, [0, 1, 1]), True)
        self.assertIs(accepts((0, ((),), (True,)), [0]), False)

    def test_long_words(self):
        self.assertIs(accepts(EVEN, [0] * 5000), True)
        self.assertIs(accepts(EVEN, [0] * 5001), False)


class LeastTest(unittest.TestCase):
    def test_all_are_least(self):
        for machine in SOME:
            with self.subTest(machine):
                self.assertEqual(least_machine(machine), plain_least(machine))

    def test_the_same_words(self):
        for machine in SOME:
            least = least_machine(machine)
            for word in words(machine[0], 4):
                self.assertIs(accepts(least, word), accepts(machine, word))

    def test_least_of_least(self):
        for machine in SOME:
            self.assertEqual(least_machine(least_machine(machine)), least_machine(machine))

    def test_no_state_can_be_spared(self):
        # Words of the length of all states together tell any two states apart.
        for machine in random_machines(60, 7, 2, 4):
            letters, moves, accepting = least_machine(machine)
            for one, other in itertools.combinations(range(len(moves)), 2):
                found = False
                for word in words(letters, 8):
                    states = [one, other]
                    for letter in word:
                        states = [moves[state][letter] if state != -1 else -1 for state in states]
                    if len({state != -1 and accepting[state] for state in states}) == 2:
                        found = True
                        break
                self.assertTrue(found)

    def test_numbers_of_the_states(self):
        for at, machine in enumerate(SOME):
            self.assertEqual(least_machine(shuffled(machine, at)), least_machine(machine))

    def test_doubled_states(self):
        for machine in SOME:
            self.assertEqual(least_machine(doubled(machine)), least_machine(machine))

    def test_examples(self):
        for machine, expected in [
            # A state from which no word is accepted, one that is not met, and no word at all.
            ((1, ((1,), (2,), (2,)), (False, True, False)), (1, ((1,), (-1,)), (False, True))),
            ((2, ((0, -1), (0, 1)), (True, True)), (2, ((0, -1),), (True,))),
            ((2, ((1, 1), (0, 0)), (False, False)), (2, (), ())),
            ((1, ((-1,), (0,)), (False, True)), (1, (), ())),
            ((2, ((2, 1), (-1, -1), (-1, 1)), (False, True, True)), (2, ((1, 2), (-1, 2), (-1, -1)), (False, True, True))),
            ((2, ((1, 2), (1, 1), (2, 2)), (False, True, True)), (2, ((1, 1), (1, 1)), (False, True))),
            ((0, ((), ()), (True, False)), (0, ((),), (True,))),
            ((0, ((), ()), (False, True)), (0, (), ())),
        ]:
            with self.subTest(machine):
                self.assertEqual(least_machine(machine), expected)

    def test_large_machines(self):
        for machine, count in [
            (chain(1, 399), 400), (chain(1, 400, True), 400), (chain(200, 399), 400), (doubled(chain(3, 200, True)), 200),
            ((1, tuple(((at + 1) % 400,) for at in range(400)), tuple(at % 4 == 0 for at in range(400))), 4),
            ((200, ((0,) * 200,) * 400, (True,) * 400), 1),
        ]:
            found = least_machine(machine)
            self.assertEqual(len(found[1]), count)
            self.assertEqual(least_machine(shuffled(machine, 3) if count < 400 else machine), found)

    def test_large_random_machines(self):
        for at in range(6):
            machine = random_machine(f"large {at}", 3, 120, 0.1, 0.1)
            self.assertEqual(least_machine(machine), plain_least(machine))


class CountTest(unittest.TestCase):
    def test_all_words(self):
        for machine in SOME:
            for length in range(5):
                expected = sum(has_word(machine, list(word)) for word in itertools.product(range(machine[0]), repeat=length))
                self.assertEqual(count_words(machine, length), expected)

    def test_lengths(self):
        for length in range(101):
            self.assertEqual(count_words(EVEN, length), 1 - length % 2)
            self.assertEqual(count_words((200, ((0,) * 200,), (True,)), length), 200 ** length)
            self.assertEqual(count_words((3, (), ()), length), 0)
            self.assertEqual(count_words((0, ((),), (True,)), length), int(length == 0))

    def test_lengths_that_are_not_allowed(self):
        for machine in (EVEN, NONE, (0, (), ())):
            for length in (-1, -100, 101, 1000):
                self.assertIs(error_of(count_words, machine, length), NotAllowed)

    def test_machines_that_are_the_same_have_the_same_number_of_words(self):
        for machine in SOME:
            for length in (7, 20, 100):
                self.assertEqual(count_words(machine, length), count_words(least_machine(machine), length))


if __name__ == "__main__":
    unittest.main()
