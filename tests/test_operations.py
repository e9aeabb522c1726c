"""[7.6] to [7.8]: running the operations of modules."""

import unittest

from doppelganger.errors import NotAllowed, TooLarge
from doppelganger.modules import check_module, first_state, read_module
from doppelganger.operations import history, run_operation
from generate import modules
from helpers import ONE, SKIP, error_of, row_with_nodes, sum_of, wrapped
from reference_runs import End, Reference

UP = read_module("new n = 0; inc : com { n := n + 1 }; get : exp [ n ]")


def loops(depth, inside):
    """The text of a command that runs another one 2 ** depth times, by loops in procedures."""
    front = ""
    for name in "abcdefghijk"[:depth]:
        front += f"proc {name}() : com {{ new x = 2 {{ while x {{ {inside}; x := x - 1 }} }} }} {{ "
        inside = name
    return front + inside + " }" * depth


def steps_of(text):
    """The steps that a command makes."""
    return Reference(10 ** 6, False).result(read_module(f"p : com {{ {text} }}")[1][0][2])[2]


def reference(module, state, index):
    """What an operation does, with the variables in cells that stay; None if it takes too many steps."""
    variables, operations = module
    runner = Reference(19000, True)

    def inside(cells):
        scope = {name: cell for (name, _), cell in zip(variables, cells)}
        value = runner.run(operations[index][2], scope)
        return ("done", value, tuple(cell.value for cell in cells))

    try:
        return runner.with_cells(list(state), inside)
    except End as end:
        return None if end.outcome == "running" else (end.outcome, 0, ())


class RunOperationTest(unittest.TestCase):
    def assert_results(self, text, cases):
        module = read_module(text)
        for state, index, expected in cases:
            with self.subTest(text=text, state=state, index=index):
                self.assertEqual(run_operation(module, state, index), expected)

    def test_commands(self):
        self.assert_results("p : com { skip }; q : com { fault }", [((), 0, ("done", 0, ())), ((), 1, ("faulted", 0, ()))])
        self.assert_results("p : com { stop }; q : com { while 1 { skip } }", [((), 0, ("never", 0, ())), ((), 1, ("never", 0, ()))])
        self.assert_results("new x = 1; p : com { x := x + x }; q : com { if x == 2 { fault } { while x { skip } } }", [
            ((0,), 0, ("done", 0, (0,))), ((1,), 0, ("done", 0, (2,))), ((2,), 0, ("done", 0, (1,))),
            ((0,), 1, ("done", 0, (0,))), ((1,), 1, ("never", 0, ())), ((2,), 1, ("faulted", 0, ())),
        ])
        self.assert_results("new x = 0; new y = 0; new z = 0; p : com { x := y; y := z; z := 1 }; q : com { new x = 2 { z := x } }", [
            ((0, 1, 2), 0, ("done", 0, (1, 2, 1))), ((2, 2, 0), 0, ("done", 0, (2, 0, 1))),
            ((0, 1, 0), 1, ("done", 0, (0, 1, 2))), ((1, 1, 1), 1, ("done", 0, (1, 1, 2))),
        ])

    def test_expressions(self):
        self.assert_results("p : exp [ 2 ]; q : exp [ 1 + fault ]", [((), 0, ("done", 2, ())), ((), 1, ("faulted", 0, ()))])
        self.assert_results("p : exp [ stop ]; q : exp [ do { while 1 { skip } } [ 2 ] ]",
                            [((), 0, ("never", 0, ())), ((), 1, ("never", 0, ()))])
        self.assert_results("new x = 0; p : exp [ x + 1 ]; q : exp [ if x == 0 [ fault ] [ if x == 1 [ 2 ] [ stop ] ] ]", [
            ((0,), 0, ("done", 1, (0,))), ((1,), 0, ("done", 2, (1,))), ((2,), 0, ("done", 0, (2,))),
            ((0,), 1, ("faulted", 0, ())), ((1,), 1, ("done", 2, (1,))), ((2,), 1, ("never", 0, ())),
        ])

    def test_expressions_that_change_variables(self):
        self.assert_results("new x = 0; new y = 1; new z = 2; p : exp [ do { x := x + 1; z := y } [ x * 2 ] ]; q : exp [ x + y + z ]", [
            ((0, 1, 2), 0, ("done", 2, (1, 1, 1))), ((2, 0, 1), 0, ("done", 0, (0, 0, 0))), ((1, 2, 0), 0, ("done", 1, (2, 2, 2))),
            ((0, 1, 2), 1, ("done", 0, (0, 1, 2))), ((2, 2, 1), 1, ("done", 2, (2, 2, 1))),
        ])

    def test_each_variable_in_its_place(self):
        for names in ("abc", "cba", "bca"):
            module = (tuple((name, 0) for name in names), (("p", "com", ("set", "a", ("read", "b"))), ("q", "exp", ("read", "c"))))
            state = tuple({"a": 0, "b": 1, "c": 2}[name] for name in names)
            after = tuple({"a": 1, "b": 1, "c": 2}[name] for name in names)
            self.assertEqual(run_operation(module, state, 0), ("done", 0, after))
            self.assertEqual(run_operation(module, state, 1), ("done", 2, state))

    def test_variables_called_q(self):
        names = ("q", "qq", "qqq", "qqqq")
        for at in range(4):
            for chosen in [names[:at], names[:at][::-1], names[1:at + 1][:3]]:
                module = (tuple((name, 0) for name in chosen), (
                    ("p", "exp", wrapped_do(chosen, ("num", 2))),
                    ("x", "exp", ("add", ONE, ("read", chosen[0]) if chosen else ONE)),
                ))
                self.assertIsNone(check_module(module))
                for value in range(3):
                    state = tuple((value + place) % 3 for place in range(len(chosen)))
                    after = tuple((each + 1) % 3 for each in state)
                    with self.subTest(module=module, state=state):
                        self.assertEqual(run_operation(module, state, 0), ("done", 2, after))
                        self.assertEqual(run_operation(module, state, 1), ("done", (1 + (value if chosen else 1)) % 3, state))

    def test_compared_with_another_account(self):
        seen = {}
        for module in modules(250, 5):
            if error_of(check_module, module) is not None:
                continue
            for index in range(len(module[1])):
                for state in {first_state(module), (2,) * len(module[0]), (1, 0, 2)[:len(module[0])]}:
                    expected = reference(module, state, index)
                    if expected is not None and error_of(run_operation, module, state, index) is None:
                        self.assertEqual(run_operation(module, state, index), expected)
                        told = (expected[0], module[1][index][1], state != expected[2])
                        seen[told] = seen.get(told, 0) + 1
        for kind in ("com", "exp"):
            self.assertGreater(seen[("done", kind, False)], 20)
            self.assertGreater(seen[("done", kind, True)], 20)
            self.assertGreater(seen[("never", kind, True)] + seen[("faulted", kind, True)], 20)


def wrapped_do(names, value):
    """An expression that adds one to each variable and has a value."""
    for name in names:
        value = ("do", ("set", name, ("add", ("read", name), ONE)), value)
    return value


class RefusedTest(unittest.TestCase):
    def test_states_and_indexes(self):
        module = read_module("new a = 0; new b = 1; p : com { skip }; q : exp [ stop ]")
        for state in [(), (0,), (0, 1, 2), (0, 3), (3, 0), (-1, 0), (0, -1), (0, 300), ("0", 0), (0, None)]:
            for index in (-1, 0, 1, 2):
                self.assertIs(error_of(run_operation, module, state, index), NotAllowed)
        for index in (-2, -1, 2, 3, 100):
            self.assertIs(error_of(run_operation, module, (0, 0), index), NotAllowed)
        self.assertIs(error_of(run_operation, UP, (3,), 0), NotAllowed)
        single = read_module("p : com { skip }")
        for state, index in [((), 1), ((), -1), ((0,), 0)]:
            self.assertIs(error_of(run_operation, single, state, index), NotAllowed)

    def test_nodes(self):
        # Of 400 nodes of the module's piece the operation may have 399; with it stand `do` and a number.
        for size in (396, 397, 398, 399):
            module = ((), (("p", "com", row_with_nodes_of_skips(size)),))
            self.assertIsNone(check_module(module))
            self.assertIs(error_of(run_operation, module, (), 0), None if size <= 398 else TooLarge)
        for many in (1, 2, 3):
            variables = (("x", 0), ("y", 0), ("z", 0))[:many]
            for size in (396, 397, 398, 399, 400):
                module = (variables, (("p", "com", row_with_nodes(size - 2 * many - 1)),))
                self.assertIsNone(check_module(module))
                self.assertIs(error_of(run_operation, module, (0,) * many, 0), None if size <= 399 else TooLarge)

    def test_nodes_of_expressions(self):
        for size in (391, 393, 395, 397):
            module = ((("x", 0),), (("p", "exp", sum_with_nodes(size)),))
            self.assertIsNone(check_module(module))
            # Around it stand the variable, `do`, `new` with `skip`, and `read`.
            expected = None if size + 2 + 4 <= 400 else TooLarge
            self.assertIs(error_of(run_operation, module, (0,), 0), expected)
            module = ((), (("p", "exp", sum_with_nodes(size + 2)),))
            self.assertIsNone(error_of(run_operation, module, (), 0))
        for first in (("fault",), ("stop",)):
            # Nothing but the value is needed then.
            module = ((("x", 0),), (("p", "exp", ("add", first, sum_with_nodes(395))),))
            self.assertIsNone(check_module(module))
            self.assertEqual(run_operation(module, (0,), 0)[1:], (0, ()))

    def test_levels(self):
        for many in range(4):
            variables = (("x", 0), ("y", 0), ("z", 0))[:many]
            for level in (26, 27, 28, 29):
                term = wrapped(lambda inner: ("block", "k", inner), level - many - 1, SKIP)
                module = (variables, (("p", "com", term),))
                self.assertIsNone(check_module(module))
                self.assertIsNone(error_of(run_operation, module, (0,) * many, 0))
            for level in (28, 29, 30):
                # In the module's piece the term stands at one level more than the variables.
                term = wrapped(lambda inner: ("sub", ONE, inner), level - many - 2, ONE)
                module = (variables, (("p", "exp", term),))
                self.assertIsNone(check_module(module))
                expected = TooLarge if many and level == 30 else None
                self.assertIs(error_of(run_operation, module, (0,) * many, 0), expected)

    def test_steps(self):
        text = loops(8, "; ".join(["skip"] * 31))
        steps = steps_of(text)
        self.assertEqual(steps, 19959)
        # A row with further steps: `do`, its `read` or number, and the variables with their values.
        for many in range(4):
            front = "".join(f"new {name} = 0; " for name in "lmn"[:many])
            for more in range(19990, 20010):
                rest = more - steps
                command = padded(text, rest)
                self.assertEqual(steps_of(command), more)
                state = (0,) * many
                total = more + 2 + 2 * many
                module = read_module(f"{front}p : com {{ {command} }}")
                self.assertIs(error_of(run_operation, module, state, 0), TooLarge if total > 20000 else None)
                # Behind an expression there are `do`, `new`, `skip` and `read` if there are variables.
                total = total + (4 if many else 0)
                module = read_module(f"{front}p : exp [ do {{ {command} }} [ 1 ] ]")
                self.assertIs(error_of(run_operation, module, state, 0), TooLarge if total > 20000 else None)

    def test_steps_that_end_early(self):
        text = loops(8, "; ".join(["skip"] * 31))
        steps = steps_of(text)
        # With the variable, `do` and what ends it these are 20000 steps.
        command = padded(text, 19996 - steps)
        for end, result in (("fault", "faulted"), ("stop", "never")):
            module = read_module(f"new n = 0; p : exp [ do {{ {command} }} [ {end} ] ]")
            self.assertEqual(run_operation(module, (0,), 0), (result, 0, ()))
            module = read_module(f"new n = 0; p : exp [ do {{ {command}; skip }} [ {end} ] ]")
            self.assertIs(error_of(run_operation, module, (0,), 0), TooLarge)
        # Its value is there behind 20000 steps, but not what it leaves.
        module = read_module(f"new n = 0; p : exp [ do {{ {command} }} [ 1 ] ]")
        self.assertIs(error_of(run_operation, module, (0,), 0), TooLarge)
        module = read_module(f"new n = 0; p : com {{ {loops(11, 'skip')} }}; q : exp [ do {{ {loops(11, 'skip')} }} [ stop ] ]")
        for index in (0, 1):
            self.assertIs(error_of(run_operation, module, (0,), index), TooLarge)
            self.assertIs(error_of(run_operation, module, (3,), index), NotAllowed)
            self.assertIs(error_of(run_operation, module, (), index), NotAllowed)
            self.assertIs(error_of(run_operation, module, (0,), index + 2), NotAllowed)


def row_with_nodes_of_skips(count):
    """A command with so many nodes that uses no variable."""
    if count % 2:
        return row_with_nodes(count)
    return ("block", "k", row_with_nodes(count - 1))


def sum_with_nodes(count):
    """An expression with so many nodes, which is odd, with few levels."""
    if count <= 41:
        return sum_of((count + 1) // 2)[:]
    half = (count - 1) // 2
    half -= 1 - half % 2
    return ("add", sum_with_nodes(half), sum_with_nodes(count - 1 - half))


def padded(text, more):
    """The text of a row with further steps, and with so many nodes that are run."""
    if more <= 0:
        return text
    # Each further `skip` comes with a `seq`, a block with one node more.
    blocks = more % 2
    rest = (more - 3 * blocks) // 2 if blocks else more // 2
    return "; ".join([text] + ["block k { skip }"] * blocks + ["skip"] * rest)


class HistoryTest(unittest.TestCase):
    def test_calls(self):
        self.assertEqual(history(UP, []), [])
        self.assertEqual(history(UP, [1]), [("done", 0)])
        self.assertEqual(history(UP, [0, 0, 1, 0, 1, 1, 0, 0, 1]), [("done", value) for value in (0, 0, 2, 0, 0, 0, 0, 0, 2)])
        later = read_module("new n = 2; get : exp [ do { n := n - 1 } [ n ] ]")
        self.assertEqual(history(later, [0] * 6), [("done", value) for value in (1, 0, 2, 1, 0, 2)])
        self.assertEqual(history(read_module("p : exp [ 1 ]"), [0, 0]), [("done", 1), ("done", 1)])

    def test_many_calls(self):
        calls = ([0] * 2 + [1]) * 2000
        found = history(UP, calls)
        self.assertEqual(len(found), 6000)
        self.assertEqual([value for _, value in found[2::3]], [(2 * at + 2) % 3 for at in range(2000)])
        self.assertEqual(calls, ([0] * 2 + [1]) * 2000)

    def test_what_follows_a_result_that_is_not_done(self):
        for end, result in (("fault", "faulted"), ("stop", "never")):
            module = read_module(f"new n = 0; p : com {{ n := n + 1; if n == 0 {{ {end} }} {{ skip }} }}; q : exp [ n ]")
            self.assertEqual(history(module, [0, 1, 0, 1]), [("done", 0), ("done", 1), ("done", 0), ("done", 2)])
            self.assertEqual(history(module, [0, 1, 0, 0, 1, 0]), [("done", 0), ("done", 1), ("done", 0), (result, 0)])
            self.assertEqual(history(module, [0, 0, 0]), [("done", 0), ("done", 0), (result, 0)])
            for calls in ([0, 0, 0, 2], [0, 0, 0, -1], [2], [-1, 0], [0, 0, 0, 1, 1, 1, 5]):
                self.assertIs(error_of(history, module, calls), NotAllowed)

    def test_runs_that_are_refused(self):
        module = read_module(f"new n = 0; p : com {{ if n == 2 {{ {loops(11, 'skip')} }} {{ n := n + 1 }} }}; q : exp [ if n [ fault ] [ 1 ] ]")
        self.assertEqual(history(module, [0, 0]), [("done", 0), ("done", 0)])
        self.assertIs(error_of(history, module, [0, 0, 0]), TooLarge)
        # Nothing is run behind a fault, and nothing at all if an index is wrong.
        self.assertEqual(history(module, [1, 0, 1, 0, 0, 0]), [("done", 1), ("done", 0), ("faulted", 0)])
        self.assertIs(error_of(history, module, [0, 0, 0, 2]), NotAllowed)

    def test_steps_of_single_operations(self):
        seen = {}
        for module in modules(200, 5, 3):
            if error_of(check_module, module) is not None:
                continue
            calls = [(7 * at // 3) % len(module[1]) for at in range(9)]
            state, expected = first_state(module), []
            for index in calls:
                outcome = reference(module, state, index)
                if outcome is None or error_of(run_operation, module, state, index) is not None:
                    expected = None
                    break
                expected.append(outcome[:2])
                state = outcome[2]
                if outcome[0] != "done":
                    break
            if expected is not None:
                self.assertEqual(history(module, calls), expected)
                seen[len(expected) == 9] = seen.get(len(expected) == 9, 0) + 1
        self.assertGreater(min(seen[True], seen[False]), 20)


if __name__ == "__main__":
    unittest.main()
