"""[2.5], [2.6]: when it is clear that a program never ends, and how many steps are made at most."""

import unittest

from doppelganger.errors import NotAllowed, TooLarge
from doppelganger.reader import read_piece
from doppelganger.runs import MAX_STEPS, run, run_for
from generate import lively_programs
from helpers import SKIP, error_of, program, row_of
from reference import error_of_piece
from reference_runs import deeply, result_of

NEVER = ("never", 0, 0)


def run_text(text):
    return run(read_piece("|- com : " + text))


def set_to(name, value):
    return ("set", name, ("num", value))


def counted(names, rest):
    """A loop that goes through all values of some variables, with something in its command, for ever."""
    body = rest
    for name in names:
        body = f"{name} := {name} + 1; if {name} {{ skip }} {{ {body} }}"
    text = f"while 1 {{ {body} }}"
    for name in names:
        text = f"new {name} = 0 {{ {text} }}"
    return text


class NeverTest(unittest.TestCase):
    def test_stops_and_loops(self):
        for text in ["stop", "skip; stop", "while 1 { skip }", "while 2 { skip; skip }", "while stop { skip }",
                     "while 1 { while 0 { skip } }", "while 1 { while 1 { skip } }",
                     "new x = 0 { while 1 { x := x } }", "new x = 0 { while 1 { x := x + 1 } }",
                     "new x = 0 { new y = 0 { while 1 { x := x + y; y := 1 - y } } }",
                     "new x = 1 { while x { x := 2 } }", "new x = 1 { while x { x := 0 - x } }",
                     "while 1 { new x = 0 { x := x + 1 } }", "new x = 0 { while 1 { new x = x { x := x + 1 } } }",
                     "block k { while 1 { block k { exit k } } }",
                     "proc f() : com { while 1 { skip } } { f }", "proc f(a : exp) : com { while a { skip } } { f(1) }",
                     "proc f(a : val) : com { while a { a := a * 2 } } { f(1) }"]:
            with self.subTest(text):
                self.assertEqual(run_text(text), NEVER)

    def test_loops_that_go_through_many_values(self):
        for names in (["a"], ["a", "b"], ["a", "b", "c"], ["a", "b", "c", "d"], ["a", "b", "c", "d", "e"]):
            with self.subTest(names):
                self.assertEqual(run_text(counted(names, "skip")), NEVER)
                self.assertEqual(run_text(counted(names, "fault"))[0], "faulted")
                self.assertEqual(run_text("block k { " + counted(names, "exit k") + " }")[0], "done")

    def test_hidden_variables_count(self):
        # The outer x, which the name does not mean here, changes by way of the procedure.
        text = "new x = 0 { proc f() : com { x := x + 1; if x { skip } { fault } } { new x = 0 { while 1 { f } } } }"
        self.assertEqual(run_text(text)[0], "faulted")
        self.assertEqual(run_text(text.replace("fault", "skip")), NEVER)

    def test_variables_that_are_not_bound_at_the_loop_count(self):
        text = ("proc f(a : com) : com { while 1 { a } } { new x = 0"
                " { f({ x := x + 1; if x { skip } { fault } }) } }")
        self.assertEqual(run_text(text)[0], "faulted")
        self.assertEqual(run_text(text.replace("fault", "skip")), NEVER)
        text = ("proc f(a : com) : com { while 1 { a } } { proc g(v : val) : com"
                " { f({ v := v + 1; if v { skip } { fault } }) } { g(0) } }")
        self.assertEqual(run_text(text)[0], "faulted")

    def test_variables_that_are_forgotten_do_not_count(self):
        self.assertEqual(run_text("new n = 0 { new y = 0 { while 1 { new x = n { x := x + 1 } } } }"), NEVER)

    def test_a_loop_has_seen_nothing_when_it_is_begun_again(self):
        text = "new n = 0 { while n < 2 { new x = 2 { while x { x := x - 1 } }; n := n + 1 } }"
        self.assertEqual(run_text(text)[0], "done")
        text = "proc f() : com { new x = 2 { while x { x := x - 1 } } } { f; f; f }"
        self.assertEqual(run_text(text)[0], "done")

    def test_two_loops_on_the_same_values(self):
        text = "new x = 1 { while x { x := 0 }; x := 1; while x { x := 0 } }"
        self.assertEqual(run_text(text)[0], "done")
        # The same loop is run within itself, by way of its argument, with the same variables.
        text = ("new n = 0 { proc f(a : com) : com { while n < 2 { n := n + 1; a } }"
                " { f({ n := 0; f({ n := 2 }) }) } }")
        self.assertEqual(run_text(text)[0], "done")

    def test_loops_in_conditions(self):
        self.assertEqual(run_text("while do { while 1 { skip } } [ 0 ] { skip }"), NEVER)
        self.assertEqual(run_text("new x = 2 { while do { while x { x := x - 1 } } [ x ] { skip } }")[0], "done")

    def test_a_row_of_values_before_the_loop_repeats(self):
        # Only when the values come back at the condition, not elsewhere, is it clear.
        self.assertEqual(run_text("new x = 0 { new y = 0 { while y < 2 { x := 1; x := 0; y := y + 1; x := 1; x := 0 } } }")[0],
                         "done")

    def test_many_programs(self):
        made = [piece for piece in lively_programs(400, 9, seed=3) if error_of_piece(piece) is None]
        expected = deeply(lambda: [result_of(piece, 3000) for piece in made])
        found = [run(piece) if result[0] != "running" else result for piece, result in zip(made, expected)]
        self.assertEqual(found, expected)
        self.assertGreater(found.count(NEVER), 20)


def spender(count):
    """A command that goes through all values of so many variables, and then ends."""
    names = "abcdef"[:count]
    text = "exit k"
    for name in names:
        text = f"{name} := {name} + 1; if {name} {{ skip }} {{ {text} }}"
    text = f"block k {{ while 1 {{ {text} }} }}"
    for name in names:
        text = f"new {name} = 0 {{ {text} }}"
    return read_piece("|- com : " + text)[2]


SPENDERS = [(f"p{name}", spender(count)) for count, name in enumerate("abcdef", 1)]
COSTS = {name: result_of(program("com", term))[2] for name, term in SPENDERS}


def program_with(steps, last):
    """A program that begins the command `last` as its step number `steps`, which is 20 at least."""
    left = steps - 1 - len(SPENDERS)
    items = []
    for name, _ in reversed(SPENDERS):
        # Two steps are a skip and three are a block in the row; a single one cannot be made.
        while left >= COSTS[name] + 2 and left != COSTS[name] + 3:
            items.append(("call", name, ()))
            left -= COSTS[name] + 2
    if left % 2:
        items.append(("block", "k", SKIP))
        left -= 3
    term = row_of(items + [SKIP] * (left // 2) + [last])
    for name, body in SPENDERS:
        term = ("proc", name, (), "com", body, term)
    return program("com", term)


class StepsTest(unittest.TestCase):
    def test_the_programs_of_these_tests(self):
        for steps in (21, 22, 40, 101, 3000, 19999):
            self.assertEqual(run(program_with(steps, SKIP)), ("done", 0, steps))
            self.assertEqual(result_of(program_with(steps, SKIP)), ("done", 0, steps))
            self.assertEqual(run(program_with(steps, ("fault",))), ("faulted", 0, steps))

    def assert_results(self, last, added, result):
        """Looks at a command whose result is clear so many steps behind its own one."""
        within = program_with(MAX_STEPS - added, last)
        beyond = program_with(MAX_STEPS + 1 - added, last)
        with self.subTest(last):
            self.assertEqual(run(within), result)
            self.assertIs(error_of(run, beyond), TooLarge)

    def test_ends(self):
        self.assertEqual(MAX_STEPS, 20000)
        self.assert_results(SKIP, 0, ("done", 0, 20000))
        self.assert_results(("block", "k", SKIP), 1, ("done", 0, 20000))
        self.assert_results(("block", "k", ("exit", "k")), 1, ("done", 0, 20000))
        self.assert_results(("while", ("num", 0), SKIP), 1, ("done", 0, 20000))
        self.assert_results(("new", "x", ("num", 0), set_to("x", 1)), 3, ("done", 0, 20000))

    def test_faults(self):
        self.assert_results(("fault",), 0, ("faulted", 0, 20000))
        self.assert_results(("block", "k", ("fault",)), 1, ("faulted", 0, 20000))

    def test_stops(self):
        self.assert_results(("stop",), 0, NEVER)
        self.assert_results(("if", ("stop",), SKIP, SKIP), 1, NEVER)

    def test_loops_without_an_end(self):
        # Behind the while, its condition and its command it is clear before the condition is begun again.
        self.assert_results(("while", ("num", 1), SKIP), 2, NEVER)
        change = ("set", "x", ("add", ("read", "x"), ("num", 1)))
        # new, 0, while; the condition and the four steps of the command three times.
        self.assert_results(("new", "x", ("num", 0), ("while", ("num", 1), change)), 17, NEVER)

    def test_far_beyond(self):
        for last in [SKIP, ("fault",), ("stop",)]:
            self.assertIs(error_of(run, program_with(20500, last)), TooLarge)
        self.assertIs(error_of(run, program_with(12000, row_of([("call", "pf", ())] * 3))), TooLarge)

    def test_thousands_of_calls_within_calls(self):
        names = "abcdefghijk"
        text = "proc a(x : com) : com { x } { "
        for before, name in zip(names, names[1:]):
            text += f"proc {name}(x : com) : com {{ {before}({{ {before}({{ x }}) }}) }} {{ "
        piece = read_piece("|- com : " + text + "k({ skip })" + " }" * len(names))
        result, value, steps = run(piece)
        self.assertEqual((result, value), ("done", 0))
        self.assertGreater(steps, 3000)
        self.assertEqual(deeply(lambda: result_of(piece)), (result, value, steps))

    def test_long_rows(self):
        self.assertEqual(run(program("com", row_of([SKIP] * 200))), ("done", 0, 399))
        self.assertEqual(run(program("com", row_of([SKIP] * 3000))), ("done", 0, 5999))


class RunForTest(unittest.TestCase):
    def assert_limits(self, piece, result):
        steps = result[2]
        for limit in sorted({0, 1, steps - 1, steps, min(steps + 1, 20000), 19999, 20000}):
            with self.subTest(limit=limit, piece=piece):
                expected = result if limit >= steps else ("running", 0, limit)
                self.assertEqual(run_for(piece, limit), expected)

    def test_programs_that_end(self):
        for text in ["com : skip", "com : skip; fault", "com : new x = 2 { while x { x := x - 1 } }", "exp : 1 + 2 * 2",
                     "exp : proc f(a : exp) : exp [ a - a ] [ f(1) + 2 ]", "com : block k { skip; exit k; stop }"]:
            piece = read_piece("|- " + text)
            self.assert_limits(piece, run(piece))
        self.assert_limits(program_with(20000, SKIP), ("done", 0, 20000))
        self.assertEqual(run_for(program_with(20001, SKIP), 20000), ("running", 0, 20000))
        self.assertEqual(run_for(program_with(20001, ("fault",)), 20000), ("running", 0, 20000))

    def test_programs_that_never_end(self):
        for text in ["stop", "skip; stop", "while 1 { skip }", "new x = 0 { while 1 { x := x + 1 } }"]:
            piece = read_piece("|- com : " + text)
            for limit in (0, 1, 2, 3, 4, 5, 17, 1000, 20000):
                self.assertEqual(run_for(piece, limit), ("running", 0, limit))

    def test_limits_that_are_not_allowed(self):
        for text in ["skip", "stop", "fault"]:
            piece = read_piece("|- com : " + text)
            for limit in (-1, -20000, 20001, 10 ** 9):
                self.assertIs(error_of(run_for, piece, limit), NotAllowed)

    def test_many_programs(self):
        made = [piece for piece in lively_programs(150, 8, seed=5) if error_of_piece(piece) is None]
        limits = [0, 1, 2, 3, 7, 20, 50, 100, 500]
        expected = deeply(lambda: [[result_of(piece, limit, False) for limit in limits] for piece in made])
        for piece, results in zip(made, expected):
            self.assertEqual([run_for(piece, limit) for limit in limits], results)


if __name__ == "__main__":
    unittest.main()
