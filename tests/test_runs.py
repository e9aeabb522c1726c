"""[2.1] to [2.4]: what programs do, and how many steps they make."""

import unittest

from doppelganger import terms
from doppelganger.errors import NotAllowed
from doppelganger.names import check_piece
from doppelganger.reader import read_piece
from doppelganger.runs import WIDTH, operate, run, run_for
from doppelganger.terms import row
from generate import Lively, lively_programs, pieces, programs
from helpers import error_of, row_of, tokens
from reference import error_of_piece
from reference_runs import deeply, result_of

DONE = "done"
FAULTED = "faulted"
NEVER = ("never", 0, 0)


def value_of(text):
    """The value of an expression."""
    result, value, _ = run(read_piece("|- exp : " + text))
    assert result == DONE, result
    return value


def value_behind(command, variables="x y z", last="x"):
    """The value of an expression behind a command, with some variables that begin with 0."""
    text = f"do {{ {command} }} [ {last} ]"
    for name in variables.split():
        text = f"new {name} = 0 [ {text} ]"
    return value_of(text)


class OperatorsTest(unittest.TestCase):
    def test_all_values(self):
        for a in range(3):
            for b in range(3):
                self.assertEqual(operate("add", a, b), (a + b) % 3)
                self.assertEqual(operate("sub", a, b), (a - b) % 3)
                self.assertEqual(operate("mul", a, b), a * b % 3)
                self.assertEqual(operate("equal", a, b), 1 if a == b else 0)
                self.assertEqual(operate("less", a, b), 1 if a < b else 0)
                for word, sign in [("add", "+"), ("sub", "-"), ("mul", "*"), ("equal", "=="), ("less", "<")]:
                    self.assertEqual(operate(word, a, b).__class__, int)
                    self.assertEqual(run(read_piece(f"|- exp : {a} {sign} {b}")), (DONE, operate(word, a, b), 3))

    def test_other_words(self):
        for word in ["", "+", "ADD", "add ", "num", "if", "div", "not", "seq"]:
            self.assertIs(error_of(operate, word, 1, 2), NotAllowed)

    def test_width(self):
        self.assertEqual((WIDTH, terms.WIDTH), (3, 3))


class TermsTest(unittest.TestCase):
    def test_results_and_steps(self):
        for text, expected in [
            ("com : skip", (DONE, 0, 1)),
            ("com : skip; skip", (DONE, 0, 3)),
            ("com : skip; skip; skip", (DONE, 0, 5)),
            ("exp : 2", (DONE, 2, 1)),
            ("exp : 1 + 2 * 2", (DONE, 2, 5)),
            ("exp : new x = 2 [ x ]", (DONE, 2, 3)),
            ("com : new x = 2 { x := 1 }", (DONE, 0, 4)),
            ("exp : do { skip } [ 2 ]", (DONE, 2, 3)),
            ("exp : if 0 [ 1 ] [ 2 ]", (DONE, 2, 3)),
            ("exp : if 1 [ 1 ] [ 2 ]", (DONE, 1, 3)),
            ("exp : if 2 [ 1 ] [ 2 ]", (DONE, 1, 3)),
            ("com : if 2 { skip; skip } { stop }", (DONE, 0, 5)),
            ("com : while 0 { stop }", (DONE, 0, 2)),
            ("com : new x = 1 { while x { x := 0 } }", (DONE, 0, 7)),
            ("com : new x = 2 { while x { x := x - 1 } }", (DONE, 0, 14)),
            ("com : block k { skip }", (DONE, 0, 2)),
            ("com : block k { exit k }", (DONE, 0, 2)),
            ("com : block k { exit k; stop }", (DONE, 0, 3)),
            ("com : block k { exit k; fault }; skip", (DONE, 0, 5)),
            ("com : stop", NEVER),
            ("exp : stop", NEVER),
            ("com : fault", (FAULTED, 0, 1)),
            ("exp : 1 + fault", (FAULTED, 0, 3)),
            ("com : fault; skip", (FAULTED, 0, 2)),
            ("com : skip; fault", (FAULTED, 0, 3)),
            ("com : proc p() : com { skip } { skip }", (DONE, 0, 2)),
            ("com : proc p() : com { skip } { p }", (DONE, 0, 3)),
            ("exp : proc p() : exp [ 2 ] [ p + p ]", (DONE, 1, 6)),
            ("exp : proc p(a : val) : exp [ a ] [ p(2) ]", (DONE, 2, 4)),
            ("exp : proc p(a : exp) : exp [ a ] [ p(2) ]", (DONE, 2, 4)),
            ("exp : proc p(a : exp) : exp [ 1 ] [ p(2) ]", (DONE, 1, 3)),
            ("exp : proc p(a : val) : exp [ 1 ] [ p(2) ]", (DONE, 1, 4)),
            ("exp : proc p(a : val, b : val) : exp [ a - b ] [ p(2, 1) ]", (DONE, 1, 7)),
            ("com : proc p(a : com) : com { a; a } { p({ skip }) }", (DONE, 0, 7)),
            ("exp : do { block k { exit k } } [ 1 ]", (DONE, 1, 4)),
        ]:
            with self.subTest(text):
                self.assertEqual(run(read_piece("|- " + text)), expected)

    def test_order_of_evaluation(self):
        for word in ["+", "-", "*", "==", "<"]:
            left, right = "do { x := 1 } [ x ]", "do { x := x + x } [ x ]"
            value = {"+": 0, "-": 2, "*": 2, "==": 0, "<": 1}[word]
            self.assertEqual(value_of(f"new x = 0 [ {left} {word} {right} ]"), value)
            value = {"+": 1, "-": 2, "*": 0, "==": 0, "<": 1}[word]
            self.assertEqual(value_of(f"new x = 0 [ {right} {word} {left} ]"), value)

    def exchanged(self, text):
        """A text with `fault` in the place of `stop`, and the other way around."""
        return " ".join({"fault": "stop", "stop": "fault"}.get(each, each) for each in tokens(text))

    def test_what_faults_first(self):
        for text in ["fault + stop", "(fault) < stop", "do { fault } [ stop ]", "if fault [ stop ] [ stop ]",
                     "new x = fault [ stop ]", "do { while fault { stop } } [ stop ]",
                     "proc p(a : val, b : val) : exp [ stop ] [ p(fault, stop) ]",
                     "proc p(a : val, b : val) : exp [ stop ] [ p(1, fault) ]",
                     "proc p(a : exp, b : val) : exp [ stop ] [ p(stop, fault) ]",
                     "proc p(a : val) : exp [ fault ] [ p(1) + stop ]"]:
            with self.subTest(text):
                self.assertEqual(run(read_piece("|- exp : " + text))[:2], (FAULTED, 0))
                self.assertEqual(run(read_piece("|- exp : " + self.exchanged(text))), NEVER)

    def test_variables(self):
        for text, value in [
            ("new x = 1 [ new x = x + 1 [ x ] ]", 2),
            ("new x = 1 [ (new x = x + 1 [ x ]) + x ]", 0),
            ("new x = 1 [ do { new x = 2 { x := 0 } } [ x ] ]", 1),
            ("new x = 1 [ do { new y = 2 { x := y } } [ x ] ]", 2),
            ("new x = 1 [ do { x := x + x } [ x ] ]", 2),
            ("new x = new x = 2 [ x ] [ x ]", 2),
        ]:
            with self.subTest(text):
                self.assertEqual(value_of(text), value)

    def test_a_variable_is_made_again_in_a_loop(self):
        self.assertEqual(value_behind("while x < 2 { new v = 0 { v := v + 1; y := y + v; x := x + 1 } }", last="y"), 2)
        self.assertEqual(value_behind("while x < 2 { new v = x { v := v + 1; y := y + v; x := x + 1 } }", last="y"), 0)

    def test_conditions(self):
        for value, count in [(0, 0), (1, 1), (2, 2)]:
            self.assertEqual(value_of(f"new x = {value} [ new n = 0 [ do {{ while x {{ x := x - 1; n := n + 1 }} }} [ n ] ] ]"),
                             count)


class ProceduresTest(unittest.TestCase):
    def assert_value(self, text, value):
        with self.subTest(text):
            self.assertEqual(value_of(text), value)

    def test_arguments_by_value(self):
        self.assert_value("new x = 1 [ proc f(a : val) : exp [ do { x := 2 } [ a ] ] [ f(x) ] ]", 1)
        self.assert_value("new x = 1 [ proc f(a : val) : exp [ do { a := 2 } [ x ] ] [ f(x) ] ]", 1)
        self.assert_value("proc f(a : val) : exp [ do { a := a + 1 } [ a ] ] [ f(1) + f(1) ]", 1)
        self.assert_value("new x = 0 [ proc f(a : val, b : val) : exp [ a - b ]"
                          " [ f(do { x := x + 1 } [ x ], do { x := x + x } [ x ]) ] ]", 2)

    def test_arguments_by_name(self):
        self.assert_value("new x = 1 [ proc f(a : exp) : exp [ do { x := 2 } [ a ] ] [ f(x) ] ]", 2)
        self.assert_value("new x = 0 [ proc f(a : exp) : exp [ a + a ] [ f(do { x := x + 1 } [ x ]) ] ]", 0)
        self.assert_value("new x = 0 [ proc f(a : com) : exp [ do { a; a } [ x ] ] [ f({ x := x + 1 }) ] ]", 2)
        self.assert_value("proc f(a : com, b : exp) : exp [ 2 ] [ f({ fault }, stop) ]", 2)
        self.assert_value("new x = 0 [ proc f(a : exp) : exp [ new y = a [ do { x := x + 1 } [ y + a ] ] ] [ f(x * 2) ] ]", 2)

    def test_val_arguments_come_before_the_body_wherever_they_stand(self):
        self.assert_value("new x = 1 [ proc f(a : exp, b : val) : exp [ do { x := 0 } [ b + a ] ] [ f(x, x) ] ]", 1)
        self.assert_value("new x = 1 [ proc f(b : val, a : exp) : exp [ do { x := 0 } [ b + a ] ] [ f(x, x) ] ]", 1)

    def test_names_of_the_argument_mean_what_they_meant_at_the_call(self):
        self.assert_value("new x = 1 [ proc f(a : exp) : exp [ new x = 2 [ a ] ] [ f(x) ] ]", 1)
        self.assert_value("new x = 1 [ proc f(a : exp) : exp [ new x = 2 [ a + x ] ] [ new y = 0 [ f(x + y) ] ] ]", 0)
        self.assert_value("new x = 1 [ proc f(x : exp) : exp [ x + x ] [ f(x) ] ]", 2)
        self.assert_value("new x = 1 [ proc f(a : exp, x : val) : exp [ a - x ] [ f(x, 2) ] ]", 2)
        self.assert_value("proc g() : exp [ 1 ] [ proc f(a : exp) : exp [ proc g() : exp [ 2 ] [ a ] ] [ f(g) ] ]", 1)
        self.assert_value("new x = 0 [ proc f(a : com) : exp [ new x = 0 [ do { a } [ x ] ] ] [ f({ x := 2 }) + x ] ]", 2)

    def test_names_of_the_body_mean_what_they_meant_at_the_procedure(self):
        self.assert_value("new x = 1 [ proc f() : exp [ x ] [ new x = 2 [ f ] ] ]", 1)
        self.assert_value("new x = 1 [ proc f() : exp [ x ] [ new x = 2 [ do { x := 0 } [ f ] ] ] ]", 1)
        self.assert_value("new x = 1 [ proc f() : exp [ x ] [ do { x := 2 } [ f ] ] ]", 2)
        self.assert_value("proc g() : exp [ 1 ] [ proc f() : exp [ g ] [ proc g() : exp [ 2 ] [ f ] ] ]", 1)
        self.assert_value("proc f() : exp [ 1 ] [ proc f() : exp [ f + 1 ] [ proc f() : exp [ f + f ] [ f ] ] ]", 1)

    def test_each_begin_of_a_procedure_has_its_surroundings(self):
        self.assert_value(
            "new n = 0 [ proc g(b : exp) : exp [ b ] [ proc f(a : val) : exp [ new y = a [ proc h() : exp [ y ]"
            " [ if a == 2 [ g(h) ] [ g(h) * 2 ] ] ] ] [ f(2) + f(1) ] ] ]", 1)
        self.assert_value(
            "new s = 0 [ new i = 0 [ do { while i < 2 { i := i + 1; new v = i { proc h() : com { s := s + v }"
            " { h; v := 0; h } } } } [ s ] ] ]", 0)

    def test_nested_calls_of_the_procedure_before(self):
        self.assert_value("proc f(a : exp) : exp [ a + 1 ] [ proc g(b : exp) : exp [ f(f(b)) ] [ g(f(0)) ] ]", 0)
        self.assert_value("proc f(a : val) : exp [ a * 2 ] [ proc g(a : val) : exp [ f(a) + f(a + 1) ] [ g(f(g(1))) ] ]", 2)

    def test_arguments_that_are_parameters(self):
        self.assert_value("proc f(a : exp) : exp [ a + a ] [ proc g(b : exp) : exp [ f(b) ]"
                          " [ new x = 0 [ g(do { x := x + 1 } [ x ]) ] ] ]", 0)
        self.assert_value("proc f(a : com) : com { a; a } [ proc g(a : com) : com { f({ a }) } [ new x = 0"
                          " [ do { g({ x := x + 1 }) } [ x ] ] ] ]", 2)
        self.assert_value("new x = 2 [ proc f(a : exp) : exp [ new x = 0 [ a ] ] [ proc g(a : exp) : exp"
                          " [ new x = 1 [ f(a) + f(x) ] ] [ g(x) ] ] ]", 0)

    def test_a_command_of_a_procedure_has_the_value_0(self):
        self.assertEqual(run(read_piece("|- com : proc f(a : val) : com { a := 2 } { f(2) }")), (DONE, 0, 5))


class ExitsTest(unittest.TestCase):
    def assert_value(self, command, value, last="x"):
        with self.subTest(command):
            self.assertEqual(value_behind(command, last=last), value)

    def test_out_of_loops(self):
        self.assert_value("block k { while 1 { x := x + 1; if x == 2 { exit k } { skip } } }", 2)
        self.assert_value("while x == 0 { block k { while 1 { exit k; x := 2 } }; x := x + 1 }", 1)

    def test_nested_blocks(self):
        self.assert_value("block k { block l { exit k; x := 1 }; x := 2 }", 0)
        self.assert_value("block k { block l { exit l; x := 1 }; x := 2 }", 2)

    def test_hidden_labels(self):
        self.assert_value("block k { block k { exit k; x := 1 }; x := x + 2 }", 2)
        self.assert_value("block k { block k { exit k }; exit k; x := 1 }", 0)

    def test_exits_that_are_expressions(self):
        self.assert_value("block k { x := exit k; x := 1 }; y := 2", 2, "x + y")
        self.assert_value("block k { x := 1 + (2 * exit k) }", 0)
        self.assert_value("block k { if exit k { x := 1 } { x := 2 } }", 0)
        self.assert_value("block k { while exit k { x := 1 } }", 0)
        self.assert_value("block k { new v = exit k { x := 2 } }", 0)

    def test_out_of_arguments_and_procedures(self):
        self.assert_value("block k { proc f(a : com) : com { a; x := 1 } { f({ exit k }); x := 2 } }", 0)
        self.assert_value("block k { proc f(a : com) : com { a; x := 1 } { f({ y := 1; exit k }) } }; x := y", 1)
        self.assert_value("block k { proc f(a : val) : com { x := 1 } { f(exit k) } }", 0)
        self.assert_value("block k { proc f() : com { exit k } { f; x := 1 } }", 0)
        self.assert_value("proc f(a : com) : com { block k { a; x := 1 }; y := y + 1 } { block k { f({ exit k }) }; y := y + 2 }",
                          2, "x + y")

    def test_variables_of_what_is_over_are_forgotten(self):
        self.assert_value("block k { new v = 1 { new w = 2 { exit k } } }; new u = 1 { x := u }", 1)
        self.assertEqual(run(read_piece(
            "|- com : new x = 0 { while x < 2 { block k { new v = x { x := x + 1; exit k } } } }"))[0], DONE)

    def test_several_runs_of_one_block(self):
        self.assert_value("proc f(a : com) : com { block k { a; y := y + 1 } } { f({ f({ x := x + 1 }) }) }", 2, "y")
        twice = ("proc g(b : com) : com { block k { b; x := x + 1 } }"
                 " { block l { g({ g({ exit l }) }); x := 2 } }")
        self.assert_value(twice, 0)

    def test_an_argument_exits_the_run_that_made_it(self):
        text = ("proc s(b : com) : com { b } { proc f(n : val, a : com) : com"
                " { block k { if n { s({ a }) } { skip }; x := x + 1 }; y := y + 1 } { FIRST } }")
        self.assert_value(text.replace("FIRST", "block k { f(1, { f(1, { exit k }) }) }"), 0, "x + y")
        self.assert_value(text.replace("FIRST", "f(1, { block k { f(1, { exit k }); x := 2 } })"), 1)
        self.assert_value(text.replace("FIRST", "f(1, { block k { f(1, { exit k }); x := 2 } })"), 1, "y")


class ManyProgramsTest(unittest.TestCase):
    def test_many_programs_agree_with_the_rules(self):
        found = {}
        made = [piece for size in (5, 8, 11) for piece in lively_programs(500, size)]
        made += [piece for size in (4, 8) for piece in programs(300, size)]
        made = [piece for piece in made if error_of_piece(piece) is None]
        expected = deeply(lambda: [result_of(piece, 4000) for piece in made])
        for piece, result in zip(made, expected):
            found[result[0]] = found.get(result[0], 0) + 1
            with self.subTest(piece):
                if result[0] == "running":
                    self.assertEqual(run_for(piece, 4000), result)
                else:
                    self.assertEqual(run(piece), result)
        self.assertGreater(found["never"], 20)
        self.assertGreater(found["faulted"], 20)
        self.assertGreater(found["done"], 500)

    def test_rows_are_run_in_their_order(self):
        steps = [("set", "x", ("add", ("mul", ("read", "x"), ("num", 2)), ("num", at % 3))) for at in range(60)]
        value = 0
        for at in range(60):
            value = (value * 2 + at % 3) % 3
        piece = ((), "exp", ("new", "x", ("num", 0), ("do", row_of(steps), ("read", "x"))))
        self.assertEqual(run(piece)[1], value)


class DeclarationsTest(unittest.TestCase):
    def test_pieces_with_declarations(self):
        for decls in [(("p", (), "com"),), (("a", ("val",), "exp"), ("b", (), "com"))]:
            for term in [("skip",), ("stop",)]:
                self.assertIs(error_of(run, (decls, "com", term)), NotAllowed)
                for limit in (0, 5, -1, 20001):
                    self.assertIs(error_of(run_for, (decls, "com", term), limit), NotAllowed)

    def test_many_pieces(self):
        for piece in pieces(200, 3):
            if piece[0] and error_of(check_piece, piece) is None:
                self.assertIs(error_of(run, piece), NotAllowed)


def alone(command):
    return command


def with_names(command):
    """A command within a variable x and a label k."""
    return ("new", "x", ("num", 1), ("block", "k", command))


def in_a_loop(command):
    """A command that is run again and again until it has changed x often enough."""
    up = ("set", "x", ("add", ("read", "x"), ("num", 1)))
    loop = ("while", ("less", ("read", "x"), ("num", 2)), ("seq", up, ("new", "y", ("num", 0), command)))
    return ("new", "x", ("num", 0), ("seq", loop, ("if", ("read", "x"), ("fault",), ("skip",))))


SURROUNDINGS = [(alone, {}), (with_names, {"x": "variable", "k": "label"}), (in_a_loop, {"x": "variable"})]


class LawsTest(unittest.TestCase):
    """[2.7]: each law on many commands, in several surroundings."""

    def commands(self, seed):
        """Pairs of a command and a condition, with their surroundings."""
        for at in range(150):
            for wrap, scope in SURROUNDINGS:
                maker = Lively(f"law {seed} {at}", True)
                command = maker.term("com", 3, dict(scope))
                condition = maker.term("exp", 2, dict(scope))
                whole = ("if", condition, ("block", "zz", command), ("skip",))
                if error_of_piece(((), "com", wrap(whole))) is None:
                    yield command, condition, wrap

    def assert_same_outcome(self, first, second):
        pieces_of_both = [((), "com", first), ((), "com", second)]
        if "running" not in [result_of(piece, 3000)[0] for piece in pieces_of_both]:
            found = [run(piece)[:2] for piece in pieces_of_both]
            self.assertEqual(found[0], found[1], (first, second))

    def test_loops(self):
        for body, condition, wrap in self.commands("loop"):
            loop = ("while", condition, body)
            once = ("if", condition, ("seq", body, loop), ("skip",))
            self.assert_same_outcome(wrap(loop), wrap(once))

    def test_blocks_whose_label_is_not_used(self):
        for command, _, wrap in self.commands("block"):
            self.assert_same_outcome(row(wrap(command), ("skip",)), wrap(("block", "zz", command)))
        for text in ["skip", "new x = 2 { while x { x := x - 1 } }", "if 1 { skip } { stop }", "fault", "skip; fault"]:
            plain = run(read_piece("|- com : " + text))
            self.assertEqual(run(read_piece(f"|- com : block k {{ {text} }}")), (*plain[:2], plain[2] + 1))

    def test_rows(self):
        ends = ["skip", "new x = 2 { while x { x := x - 1 } }", "if 1 { skip } { stop }", "block k { exit k; stop }",
                "proc p(a : val) : com { a := a } { p(1) }"]
        others = ["stop", "fault", "while 1 { skip }", "skip; fault"]
        for first in ends:
            for second in ends + others:
                one, two = run(read_piece("|- com : " + first)), run(read_piece("|- com : " + second))
                both = run(read_piece(f"|- com : {first}; {second}"))
                self.assertEqual(both[:2], two[:2])
                if two[0] == DONE:
                    self.assertEqual(both[2], one[2] + two[2] + 1)
        for first in others:
            for second in ends + others:
                one = run(read_piece("|- com : " + first))
                both = run(read_piece(f"|- com : {first}; {second}"))
                self.assertEqual(both[:2], one[:2])

    def test_calls(self):
        for body, arg, plain in [
            ("a; a", "x := x + 1", "x := x + 1; x := x + 1"),
            ("while x < 2 { a }", "x := x + 1", "while x < 2 { x := x + 1 }"),
            ("new y = 1 { a; x := y }", "x := 2; y := 0", "new yy = 1 { x := 2; y := 0; x := yy }"),
            ("skip", "fault", "skip"), ("a", "fault", "fault"), ("a; fault", "stop", "stop; fault"),
        ]:
            for value in range(3):
                called = f"proc f(a : com) : com {{ {body} }} {{ f({{ {arg} }}) }}"
                self.assert_same_value(called, plain, value)
        for value in range(3):
            self.assert_same_value("proc f(a : val, b : val) : com { a := a + b; x := a * 2 } { f(x + 1, y) }",
                                   "new a = x + 1 { new b = y { a := a + b; x := a * 2 } }", value)
            self.assert_same_value("proc f(a : val, b : exp) : com { a := a + b; x := a * 2 } { f(x + 1, y - x) }",
                                   "new a = x + 1 { a := a + (y - x); x := a * 2 }", value)

    def assert_same_value(self, first, second, value):
        found = []
        for command in (first, second):
            text = f"|- exp : new x = {value} [ new y = {value} [ do {{ {command} }} [ x + y * 2 ] ] ]"
            found.append(run(read_piece(text))[:2])
        self.assertEqual(found[0], found[1])


if __name__ == "__main__":
    unittest.main()
