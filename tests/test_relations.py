"""[7.10], [7.11]: modules that are the same, and relations of their states."""

import copy
import random
import unittest

from doppelganger.errors import Apart, BadKind, NotAllowed, TooLarge
from doppelganger.linking import link
from doppelganger.modules import check_module, first_state, module_text, piece_of, read_module
from doppelganger.operations import history, run_operation
from doppelganger.reader import read_piece
from doppelganger.relations import is_relation, relation, same_modules
from doppelganger.runs import run
from doppelganger.same import difference, same
from generate import modules
from helpers import SKIP, error_of
from test_linking import calling
from test_operations import loops, reference
from test_same import CHANGES

UP = read_module("new n = 0; inc : com { n := n + 1 }; get : exp [ n ]")
DOWN = read_module("new m = 0; dec : com { m := m - 1 }; get : exp [ 0 - m ]")
# The same with two variables, which tell together how far it is.
PAIR = read_module("new a = 0; new b = 2; put : com { if a == b { a := 0; b := 2 } { if a { a := 2; b := 2 } { a := 1; b := 0 } } };"
                   " look : exp [ if a == b [ 2 ] [ a ] ]")
SAME = [UP, DOWN, PAIR, read_module("new x = 1; new y = 0; p : com { x := x * 2; y := y + 1 }; q : exp [ y ]")]
OTHERS = [
    read_module("new n = 1; inc : com { n := n + 1 }; get : exp [ n ]"), read_module("new n = 0; inc : com { n := n + 2 }; get : exp [ n ]"),
    read_module("new n = 0; inc : com { n := n + 1 }; get : exp [ n * n ]"), read_module("inc : com { skip }; get : exp [ 0 ]"),
    read_module("new n = 0; inc : com { n := n + 1 }; get : exp [ do { n := n + 1 } [ n ] ]"),
    read_module("new n = 0; inc : com { if n == 2 { fault } { n := n + 1 } }; get : exp [ n ]"),
    read_module("new n = 0; inc : com { if n == 2 { stop } { n := n + 1 } }; get : exp [ n ]"),
]
LARGE_STATE = read_module("new a = 0; new b = 0; new c = 0; step : com { a := a + 1; if a { skip } { b := b + 1; if b { skip }"
                          " { c := c + 1 } } }; get : exp [ c ]")


def kinds_of(module):
    return [kind for _, kind, _ in module[1]]


def renamed(module, chance):
    """The module with other names of its operations, and a further variable that is not used."""
    variables, operations = module
    more = (("zz", chance.randrange(3)),) if len(variables) < 3 else ()
    at = chance.randrange(len(variables) + 1)
    return (variables[:at] + more + variables[at:], tuple(zip(("zzzy", "zzzz"), *zip(*[each[1:] for each in operations]))))


def changed(module, chance):
    """The module with something in its operations that changes nothing."""
    operations = []
    for name, kind, term in module[1]:
        change = chance.choice(CHANGES[kind] + CHANGES["both"])
        operations.append((name, kind, change(term)))
    return (module[0], tuple(operations))


def pairs_behind(first, second, pair):
    """The pairs of results of the operations in a pair of states, by another account."""
    return [(reference(first, pair[0], index), reference(second, pair[1], index)) for index in range(len(first[1]))]


def relation_of(first, second):
    """The relation of two modules that are the same, by another account."""
    found = {(first_state(first), first_state(second))}
    waiting = list(found)
    for pair in waiting:
        for one, two in pairs_behind(first, second, pair):
            if one[0] == "done" and (one[2], two[2]) not in found:
                found.add((one[2], two[2]))
                waiting.append((one[2], two[2]))
    return sorted(found)


def is_relation_of(first, second, pairs):
    """Whether a list is such a relation, by another account."""
    for pair in pairs:
        for one, two in pairs_behind(first, second, pair):
            if one[:2] != two[:2] or (one[0] == "done" and (one[2], two[2]) not in pairs):
                return False
    return (first_state(first), first_state(second)) in pairs


def small_modules(count, size, seed):
    """Modules with short runs, each with its plays."""
    found = []
    for module in modules(count, size, seed):
        if error_of(check_module, module) is None and error_of(same_modules, module, module) is None:
            if error_of(relation, module, module) is None:
                found.append(module)
    return found


class SameModulesTest(unittest.TestCase):
    def test_modules_that_are_the_same(self):
        for first in SAME:
            for second in SAME:
                self.assertIs(same_modules(first, second), True)
        chance = random.Random(4)
        for module in small_modules(60, 4, 6):
            for other in (renamed(module, chance), changed(module, chance), renamed(changed(module, chance), chance)):
                if error_of(check_module, other) is None:
                    self.assertIs(same_modules(module, other), True)
                    self.assertIs(same_modules(other, module), True)

    def test_modules_that_are_apart(self):
        for at, first in enumerate(OTHERS):
            for second in SAME + OTHERS[:at] + OTHERS[at + 1:]:
                self.assertIs(same_modules(first, second), False)
                self.assertIs(same_modules(second, first), False)

    def test_pieces_decide(self):
        found = small_modules(60, 4, 7)
        told = {}
        for first in found:
            for second in found:
                if kinds_of(first) == kinds_of(second):
                    is_same = same_modules(first, second)
                    self.assertIs(is_same, same(piece_of(first), piece_of(second)))
                    told[is_same] = told.get(is_same, 0) + 1
        self.assertGreater(min(told[True], told[False]), 50)

    def test_kinds(self):
        texts = ["p : com { skip }", "p : exp [ 1 ]", "p : com { skip }; q : com { skip }", "p : com { skip }; q : exp [ 1 ]",
                 "p : exp [ 1 ]; q : com { skip }", "p : exp [ 1 ]; q : exp [ 1 ]"]
        for at, text in enumerate(texts):
            for place, other in enumerate(texts):
                first, second = read_module(text), read_module(other)
                expected = None if at == place else BadKind
                self.assertIs(error_of(same_modules, first, second), expected)
                self.assertIs(error_of(relation, first, second), expected)
                self.assertIs(error_of(is_relation, first, second, []), expected)

    def test_modules_that_are_too_large(self):
        large = read_module("p : com { proc f() : com { " + "; ".join(["skip"] * 40) + " } { " + "; ".join(["f"] * 6) + " } }")
        small = read_module("p : com { skip }")
        other = read_module("p : exp [ 1 ]")
        long_run = read_module(f"p : com {{ {loops(8, 'skip')} }}")
        for module in (large, long_run):
            for first, second in ((module, small), (small, module), (module, module)):
                self.assertIs(error_of(same_modules, first, second), TooLarge)
                self.assertIs(error_of(relation, first, second), TooLarge)
            for first, second in ((module, other), (other, module)):
                self.assertIs(error_of(same_modules, first, second), BadKind)
                self.assertIs(error_of(relation, first, second), BadKind)
                self.assertIs(error_of(is_relation, first, second, []), BadKind)

    def test_the_same_for_clients(self):
        chance = random.Random(8)
        names = {"p": "com", "q": "exp"}
        clients = [read_piece(f"p : com, q : exp |- com : {text}") for text in (
            "p; p", "if q == 2 { fault } { skip }", "p; if q == 1 { fault } { p; p; if q { stop } { skip } }",
            "while q < 2 { p }; p; p; while q == 1 { p }", "new x = 2 { while x { p; x := x - q } }",
        )]
        for module in SAME + OTHERS:
            self.assertEqual(kinds_of(module), list(names.values()))
            for _ in range(5):
                calls = [chance.randrange(2) for _ in range(6)]
                told = history(module, calls)
                for other in SAME:
                    if module in SAME:
                        self.assertEqual(history(other, calls), told)
        for client in clients:
            results = []
            for module in SAME:
                operations = tuple((name, kind, term) for name, (_, kind, term) in zip(names, module[1]))
                results.append(run(link((module[0], operations), client))[:2])
            self.assertEqual(len(set(results)), 1, results)
        # A client of the calls in which they differ tells modules that are apart.
        for module in OTHERS:
            play, _ = difference(piece_of(UP), piece_of(module))
            calls = [move[1] - 1 for move in play if move[0] == "call" and move[1] and not move[2]]
            self.assertNotEqual(history(UP, calls), history(module, calls))
            client = calling(UP, [(index, value) for index, (_, value) in zip(calls, history(UP, calls))])
            self.assertEqual(run(link(UP, client))[0], "done")
            renamed_one = (module[0], tuple((name, kind, term) for name, (_, kind, term) in zip(("inc", "get"), module[1])))
            self.assertNotEqual(run(link(renamed_one, client))[0], "done")


class RelationTest(unittest.TestCase):
    def assert_relation(self, first, second, pairs):
        with self.subTest(first=module_text(first), second=module_text(second)):
            self.assertEqual(relation(first, second), pairs)
            self.assertIs(is_relation(first, second, pairs), True)

    def test_relations(self):
        self.assert_relation(UP, DOWN, [((0,), (0,)), ((1,), (2,)), ((2,), (1,))])
        self.assert_relation(DOWN, UP, [((0,), (0,)), ((1,), (2,)), ((2,), (1,))])
        self.assert_relation(UP, UP, [((0,), (0,)), ((1,), (1,)), ((2,), (2,))])
        self.assert_relation(UP, PAIR, [((0,), (0, 2)), ((1,), (1, 0)), ((2,), (2, 2))])
        self.assert_relation(PAIR, UP, [((0, 2), (0,)), ((1, 0), (1,)), ((2, 2), (2,))])
        # Two values that stand for the same.
        self.assert_relation(UP, SAME[3], [((0,), (1, 0)), ((0,), (2, 0)), ((1,), (1, 1)), ((1,), (2, 1)), ((2,), (1, 2)), ((2,), (2, 2))])
        nothing = read_module("p : com { skip }; q : exp [ 1 ]")
        still = read_module("new a = 2; new b = 1; p : com { b := b }; q : exp [ a - b ]")
        self.assert_relation(nothing, nothing, [((), ())])
        self.assert_relation(nothing, still, [((), (2, 1))])
        moving = read_module("new a = 2; p : com { a := 0 - a }; q : exp [ a + 2 - a + 2 ]")
        self.assert_relation(moving, still, [((1,), (2, 1)), ((2,), (2, 1))])
        self.assertEqual(len(relation(LARGE_STATE, LARGE_STATE)), 27)

    def test_results_that_are_not_done(self):
        for end in ("fault", "stop"):
            first = read_module(f"new n = 0; p : com {{ if n == 2 {{ {end} }} {{ n := n + 1 }} }}; q : exp [ if n == 1 [ {end} ] [ n ] ]")
            second = read_module(f"new n = 2; new a = 1; p : com {{ if n {{ n := n - 1 }} {{ {end} }} }}; q : exp [ if n == 1 [ {end} ] [ 2 - n ] ]")
            self.assert_relation(first, second, [((0,), (2, 1)), ((1,), (1, 1)), ((2,), (0, 1))])
            other = read_module(f"p : com {{ {end} }}; q : exp [ {end} ]")
            self.assertIs(error_of(relation, first, other), Apart)
            self.assert_relation(other, read_module(f"new x = 2; p : com {{ x := 0; {end} }}; q : exp [ 1 + {end} ]"), [((), (2,))])
        faulting, stopping = read_module("p : com { fault }"), read_module("p : com { stop }")
        self.assertIs(error_of(relation, faulting, stopping), Apart)
        self.assertIs(is_relation(faulting, stopping, [((), ())]), False)
        self.assertIs(is_relation(faulting, faulting, [((), ())]), True)

    def test_compared_with_another_account(self):
        chance = random.Random(9)
        sizes = {}
        for module in small_modules(80, 4, 10):
            for other in (module, renamed(module, chance), renamed(changed(module, chance), chance)):
                if error_of(check_module, other) is None:
                    pairs = relation_of(module, other)
                    self.assert_relation(module, other, pairs)
                    sizes[len(pairs)] = sizes.get(len(pairs), 0) + 1
        self.assertGreater(len(sizes), 3)

    def test_modules_that_are_apart(self):
        for first in SAME[:2]:
            for second in OTHERS:
                self.assertIs(error_of(relation, first, second), Apart)
                self.assertIs(error_of(relation, second, first), Apart)

    def test_runs_that_are_refused(self):
        # Each run behind one move is short enough for its plays, but there is a level too many for what runs it.
        term = ("read", "n")
        for _ in range(27):
            term = ("sub", ("num", 0), term)
        module = ((("n", 1),), (("get", "exp", term),))
        self.assertIsNone(check_module(module))
        self.assertIs(same_modules(module, module), True)
        self.assertIs(error_of(relation, module, module), TooLarge)
        self.assertIs(error_of(is_relation, module, module, [((1,), (1,))]), TooLarge)
        self.assertIs(is_relation(module, module, []), False)
        self.assertIs(error_of(is_relation, module, module, [((1,), (1,)), ((3,), (1,))]), NotAllowed)
        self.assertIs(error_of(relation, module, (module[0], (("get", "exp", ("num", 0)),))), Apart)


class IsRelationTest(unittest.TestCase):
    def assert_false(self, first, second, pairs):
        with self.subTest(pairs):
            self.assertIs(is_relation(first, second, pairs), False)

    def test_pairs_left_out(self):
        for first, second in [(UP, DOWN), (UP, PAIR), (PAIR, DOWN), (LARGE_STATE, LARGE_STATE)]:
            pairs = relation(first, second)
            for at in range(len(pairs)):
                self.assert_false(first, second, pairs[:at] + pairs[at + 1:])
                self.assert_false(first, second, pairs[at:at + 1])
            self.assert_false(first, second, [])

    def test_pairs_in_another_order_and_twice(self):
        for first, second in [(UP, DOWN), (UP, PAIR), (UP, SAME[3]), (LARGE_STATE, LARGE_STATE)]:
            pairs = relation(first, second)
            self.assertIs(is_relation(first, second, pairs[::-1]), True)
            self.assertIs(is_relation(first, second, pairs + pairs[::-1]), True)
            self.assertIs(is_relation(first, second, pairs[1:] + pairs[:1] * 3), True)

    def test_other_pairs(self):
        pairs = relation(UP, DOWN)
        for pair in [((0,), (1,)), ((2,), (2,)), ((1,), (0,))]:
            self.assert_false(UP, DOWN, pairs + [pair])
            self.assert_false(UP, DOWN, [pair] + pairs)
        self.assert_false(UP, DOWN, [(other, state) for state, other in pairs[1:]] + [((0,), (1,))])
        self.assert_false(UP, DOWN, [((0,), (0,)), ((1,), (1,)), ((2,), (2,))])
        # More pairs that fit do no harm, even if no call leads there.
        two = read_module("new n = 0; new a = 0; inc : com { n := n + 1 }; get : exp [ n ]")
        pairs = relation(two, UP)
        more = [((state[0], 1), other) for state, other in pairs]
        self.assertIs(is_relation(two, UP, pairs + more), True)
        self.assert_false(two, UP, pairs + more[:2])
        self.assert_false(two, UP, more)

    def test_modules_that_are_apart(self):
        every = [((one,), (two,)) for one in range(3) for two in range(3)]
        for other in OTHERS:
            if len(other[0]) == 1:
                self.assert_false(UP, other, every)
                self.assert_false(UP, other, [((at,), (at,)) for at in range(3)])

    def test_compared_with_another_account(self):
        chance = random.Random(11)
        told = {}
        for module in small_modules(60, 4, 12):
            for other in (renamed(module, chance), renamed(changed(module, chance), chance)):
                if error_of(check_module, other) is not None:
                    continue
                pairs = relation(module, other)
                for _ in range(4):
                    made = list(pairs)
                    for _ in range(chance.randrange(3)):
                        state = tuple(chance.randrange(3) for _ in module[0])
                        made.append((state, tuple(chance.randrange(3) for _ in other[0])))
                    if chance.random() < 0.3:
                        made.pop(chance.randrange(len(made)))
                    chance.shuffle(made)
                    if error_of(is_relation, module, other, made) is None:
                        expected = is_relation_of(module, other, made)
                        self.assertIs(is_relation(module, other, made), expected)
                        told[expected] = told.get(expected, 0) + 1
        self.assertGreater(min(told[True], told[False]), 30)

    def test_something_that_is_not_a_state(self):
        pairs = relation(UP, PAIR)
        # A run of this module is refused, which must not be told first.
        slow = read_module(f"new n = 0; p : com {{ {loops(11, 'skip')} }}; q : exp [ n ]")
        self.assertIs(error_of(is_relation, slow, UP, [((0,), (0,))]), TooLarge)
        for first, second, fine in [(UP, PAIR, pairs), (slow, PAIR, [((0,), (0, 2))])]:
            for state in [(), (3,), (-1,), (0, 0), (0, 0, 0), 0, "0", None, ("0",), (None,), [0]]:
                self.assertIs(error_of(is_relation, first, second, [(state, (0, 2))] + fine), NotAllowed)
                self.assertIs(error_of(is_relation, first, second, fine + [(state, (0, 2))]), NotAllowed)
            for state in [(), (0,), (0, 3), (-1, 0), (0, -1), (0, 0, 0)]:
                self.assertIs(error_of(is_relation, first, second, [((0,), state)] + fine), NotAllowed)
                self.assertIs(error_of(is_relation, first, second, fine + [((0,), state)]), NotAllowed)
        one = read_module("p : com { skip }")
        self.assertIs(error_of(is_relation, UP, one, [((3,), (3,))]), BadKind)
        self.assertIs(error_of(is_relation, one, one, [((), (0,))]), NotAllowed)

    def test_values_stay(self):
        pairs = relation(UP, PAIR)
        before = copy.deepcopy((UP, PAIR, pairs))
        is_relation(UP, PAIR, pairs)
        self.assertEqual((UP, PAIR, pairs), before)
        pairs.clear()
        self.assertEqual(relation(UP, PAIR), before[2])
        calls = [0, 1]
        told = history(UP, calls)
        told.append(("done", 1))
        self.assertEqual((calls, history(UP, calls)), ([0, 1], [("done", 0), ("done", 1)]))
        self.assertEqual(run_operation(UP, (0,), 1), ("done", 0, (0,)))


if __name__ == "__main__":
    unittest.main()
