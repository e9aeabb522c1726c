"""[3.5], [3.6]: relations that show that two machines are the same."""

import unittest

from doppelganger.automata import least_machine
from doppelganger.errors import Apart, BadForm, NotAllowed
from doppelganger.relate import check_relation, relation
from helpers import error_of
from machines import EVEN, NONE, THREE, chain, doubled, has_word, random_machines, shuffled, step, with_end, words
from test_differ import are_same

SOME = random_machines(200, 2)
SAME = [(machine, other) for at, machine in enumerate(SOME)
        for other in (machine, least_machine(machine), shuffled(machine, at), doubled(machine))]


def met_pairs(first, second):
    """The pairs that are met from the pair of the first states, by all words."""
    found = set()
    waiting = [(0 if first[1] else -1, 0 if second[1] else -1)]
    while waiting:
        pair = waiting.pop()
        if pair != (-1, -1) and pair not in found:
            found.add(pair)
            waiting += [(step(first, pair[0], letter), step(second, pair[1], letter)) for letter in range(first[0])]
    return sorted(found)


def shows(first, second, pairs):
    """Whether a relation shows that the machines are the same, sentence by sentence."""
    there = set(pairs) | {(-1, -1)}
    if (0 if first[1] else -1, 0 if second[1] else -1) not in there:
        return False
    for one, other in there:
        if (one != -1 and first[2][one]) != (other != -1 and second[2][other]):
            return False
        if any((step(first, one, letter), step(second, other, letter)) not in there for letter in range(first[0])):
            return False
    return True


class RelationTest(unittest.TestCase):
    def test_machines_that_are_the_same(self):
        for first, second in SAME:
            with self.subTest(first=first, second=second):
                found = relation(first, second)
                self.assertEqual(found, met_pairs(first, second))
                self.assertIsNone(check_relation(first, second, found))

    def test_machines_that_are_not(self):
        for first in SOME:
            for state in range(len(first[1])):
                second = with_end(first, state)
                if not are_same(first, second):
                    self.assertIs(error_of(relation, first, second), Apart)

    def test_other_letters(self):
        for first, second in [(EVEN, (2, (), ())), (NONE, (0, (), ()))]:
            self.assertIs(error_of(relation, first, second), NotAllowed)
            self.assertIs(error_of(relation, second, first), NotAllowed)
            for pairs in ([], [(0, 0)], [(7, 7)], [(-1, -1)]):
                self.assertIs(error_of(check_relation, first, second, pairs), NotAllowed)

    def test_without_states(self):
        self.assertEqual(relation(NONE, NONE), [])
        self.assertEqual(relation(NONE, (1, ((0,),), (False,))), [(-1, 0)])
        self.assertEqual(relation((1, ((1,), (0,)), (False, False)), NONE), [(0, -1), (1, -1)])
        self.assertIs(error_of(relation, EVEN, NONE), Apart)
        self.assertIsNone(check_relation(NONE, NONE, []))
        self.assertIs(error_of(check_relation, NONE, EVEN, []), Apart)
        self.assertIs(error_of(check_relation, EVEN, EVEN, []), Apart)
        self.assertIs(error_of(check_relation, NONE, (1, ((0,),), (False,)), []), Apart)
        self.assertIsNone(check_relation(NONE, (1, ((0,),), (False,)), [(-1, 0)]))

    def test_large_machines(self):
        machine = chain(1, 400, True)
        self.assertEqual(relation(machine, machine), [(at, at) for at in range(400)])
        self.assertEqual(len(relation(chain(1, 20, True), (1, tuple(((at + 1) % 400,) for at in range(400)),
                                                           tuple(at % 20 == 0 for at in range(400))))), 400)

    def test_lists_may_be_changed(self):
        found = relation(THREE, EVEN)
        found.append((9, 9))
        found[0] = (5, 5)
        self.assertEqual(relation(THREE, EVEN), [(0, 0), (1, 1), (2, 0)])


class CheckTest(unittest.TestCase):
    def assert_error(self, error, first, second, pairs):
        with self.subTest(first=first, second=second, pairs=pairs):
            kept = list(pairs)
            self.assertIs(error_of(check_relation, first, second, pairs), error)
            self.assertEqual(pairs, kept)

    def test_form(self):
        for pairs in [[(0, 0), (1, 1), (2, 2)], [(3, 0)], [(0, 2)], [(-2, 0)], [(0, -2)], [(-1, -1)],
                      [(-1, -1), (0, 0), (1, 1), (2, 0)], [(0, 0), (0, 0), (1, 1), (2, 0)], [(1, 1), (0, 0), (2, 0)],
                      [(0, 0), (2, 0), (1, 1)], [(0, 0), (1, 1), (2, 0), (2, 0)], [(0, 1), (0, 0)], [(100, 100)],
                      [(0, 0), (1, 1), (2, 0), (3, 0)]]:
            self.assert_error(BadForm, THREE, EVEN, pairs)
        # What is wrong with the form comes before what is not shown.
        self.assert_error(BadForm, THREE, NONE, [(0, 0)])
        self.assert_error(BadForm, EVEN, EVEN, [(1, 0), (0, 1)])

    def test_pairs_left_out_and_put_in(self):
        for first, second in SAME:
            pairs = relation(first, second)
            for at in range(len(pairs)):
                # Nothing less than the least relation shows it.
                self.assert_error(Apart, first, second, pairs[:at] + pairs[at + 1:])
                self.assert_error(BadForm, first, second, pairs[:at + 1] + pairs[at:])
                if at:
                    self.assert_error(BadForm, first, second, pairs[:at - 1] + [pairs[at], pairs[at - 1]] + pairs[at + 1:])
            for one in range(-1, len(first[1])):
                for other in range(-1, len(second[1])):
                    if (one, other) not in pairs and (one, other) != (-1, -1):
                        more = sorted(pairs + [(one, other)])
                        self.assert_error(None if shows(first, second, more) else Apart, first, second, more)

    def test_pairs_exchanged(self):
        for first, second in SAME:
            pairs = relation(first, second)
            turned = sorted((other, one) for one, other in pairs)
            self.assertIsNone(check_relation(second, first, turned))
            for at in range(len(pairs)):
                one, other = pairs[at]
                changed = (one, (other + 2) % (len(second[1]) + 1) - 1)
                if changed not in pairs and changed != (-1, -1):
                    self.assert_error(Apart, first, second, sorted(pairs[:at] + [changed] + pairs[at + 1:]))

    def test_only_what_is_shown_counts(self):
        # Machines that are apart have no relation that shows it.
        for first in SOME[:80]:
            for state in range(len(first[1])):
                second = with_end(first, state)
                if not are_same(first, second):
                    self.assert_error(Apart, first, second, met_pairs(first, second))
                    everything = [(one, other) for one in range(-1, len(first[1])) for other in range(-1, len(second[1]))
                                  if (one, other) != (-1, -1)]
                    self.assert_error(Apart, first, second, everything)
                    self.assert_error(Apart, first, second, relation(first, first))

    def test_any_relation_that_is_accepted_is_right(self):
        for first, second in zip(SOME, SOME[1:]):
            if first[0] == second[0]:
                accepted = error_of(check_relation, first, second, met_pairs(first, second)) is None
                self.assertEqual(accepted, are_same(first, second))
                if accepted:
                    for word in words(first[0], 4):
                        self.assertEqual(has_word(first, word), has_word(second, word))


if __name__ == "__main__":
    unittest.main()
