"""[9.1], [9.2]: running scripts."""

import unittest

from doppelganger.around import around_of
from doppelganger.book import Book
from doppelganger.certify import certify
from doppelganger.compiler import compile_piece
from doppelganger.contexts import fill
from doppelganger.cpu import run_code
from doppelganger.desk import run_script
from doppelganger.errors import (
    Apart, BadForm, BadKind, BadName, DoppelError, Missing, NotAllowed, Same, TooLarge,
)
from doppelganger.modules import read_module
from doppelganger.moves import move_text
from doppelganger.names import check_piece
from doppelganger.reader import read_piece
from doppelganger.relations import same_modules
from doppelganger.runs import run
from doppelganger.same import difference, same
from doppelganger.witness import witness
from doppelganger.writer import piece_text
from generate import playful_pieces
from helpers import error_of
from test_same import changed

WORDS = {NotAllowed: "refused", BadForm: "form", BadName: "name", BadKind: "kind", TooLarge: "large", Same: "same",
         Apart: "apart", Missing: "missing"}
ONCE, TWICE, STOPPED = "p : com |- com : p", "p : com |- com : p; p", "p : com |- com : p; stop"
BEYOND = "f(com) : com |- com : f({ block k { f({ exit k }) } })"
LARGE = "p : com |- com : proc r() : com { " + "; ".join(["p"] * 30) + " } { " + "; ".join(["r"] * 10) + " }"
# Thirteen moves are shown neither by a context nor by code around.
LONG = "; ".join(["p"] * 6)
UP = "new n = 0; inc : com { n := n + 1 }; get : exp [ n ]"
DOWN = "new m = 0; dec : com { m := m - 1 }; get : exp [ 0 - m ]"


def run_lines(*lines):
    return run_script("\n".join(lines))


class DeskCase(unittest.TestCase):
    def assert_answers(self, *cases):
        """The lines of a script and their answers."""
        lines = [line for line, _ in cases]
        self.assertEqual(list(zip(lines, run_lines(*lines))), list(cases))


class LinesTest(DeskCase):
    def test_pieces(self):
        self.assert_answers(
            ("let a = p:com|-com:p;p", "ok"), ("show a", TWICE), ("let b = |- exp : 3", "form"), ("show b", "none"), ("", ""),
            ("let a =   |-   exp:((1))  ", "ok"), ("show a", "|- exp : 1"), ("let a = ", "form"), ("let a =", "bad"), ("show a", "|- exp : 1"),
            ("let a = |- exp : x", "name"), ("let a = p : com |- exp : p", "kind"), ("show a", "|- exp : 1"),
            ("let a = |- com : " + "; ".join(["skip"] * 201), "large"), ("show a", "|- exp : 1"), ("show c", "none"), ("show", "bad"),
        )

    def test_contexts(self):
        self.assert_answers(
            ("let c = hole : com |- com : proc p() : com { fault } { hole; skip }", "ok"), (f"let a = {TWICE}", "ok"), ("fill c a d", "ok"),
            ("show d", "|- com : proc p() : com { fault } { p; p; skip }"), ("run d", "faulted 5"), ("fill a c d", "missing"),
            ("show d", "|- com : proc p() : com { fault } { p; p; skip }"), ("let e = |- exp : 1", "ok"), ("fill c e f", "kind"),
            ("show f", "none"), ("let e = q : com |- com : q", "ok"), ("fill c e f", "name"), ("fill c zz f", "none"), ("fill zz a f", "none"),
            ("fill c a c", "ok"), ("show c", "|- com : proc p() : com { fault } { p; p; skip }"), ("fill c a c", "missing"),
        )

    def test_runs(self):
        self.assert_answers(
            ("let a = |- exp : 1 + 2", "ok"), ("run a", "done 0 3"), ("let a = |- exp : 2", "ok"), ("run a", "done 2 1"),
            ("let a = |- com : skip; skip", "ok"), ("run a", "done 0 3"), ("let a = |- com : skip; fault", "ok"), ("run a", "faulted 3"),
            ("let a = |- com : while 1 { skip }", "ok"), ("run a", "never"), ("let a = |- exp : stop", "ok"), ("run a", "never"),
            (f"let a = {ONCE}", "ok"), ("run a", "refused"), ("run b", "none"),
        )
        steps = "; ".join(["a"] * 40)
        text = f"|- com : proc a() : com {{ {'; '.join(['skip'] * 40)} }} {{ proc b() : com {{ {steps} }} {{ b; b; b; b; b; b; b }} }}"
        self.assert_answers((f"let a = {text}", "ok"), ("run a", "large"))

    def test_same_and_differ(self):
        self.assert_answers(
            (f"let a = {ONCE}", "ok"), (f"let b = {TWICE}", "ok"), ("let c = p : com |- com : skip; p", "ok"), (f"let d = {STOPPED}", "ok"),
            ("same a a", "yes"), ("same a c", "yes"), ("same a b", "no"), ("same d a", "no"), ("differ a b", "? p? p!0 !0 : a"),
            ("differ b a", "? p? p!0 !0 : a"), ("differ a d", "? p? p!0 !0 : a"), ("differ a c", "same"), ("differ a a", "same"),
            ("let e = |- com : skip", "ok"), ("same a e", "kind"), ("differ e a", "kind"), (f"let f = {BEYOND}", "ok"), ("same f f", "refused"),
            ("differ f f", "refused"), (f"let g = {LARGE}", "ok"), ("same g a", "large"), ("differ a g", "large"), ("same g e", "kind"),
            ("same a zz", "none"), ("differ zz a", "none"), ("certify a c", "5"), ("certify a a", "5"), ("certify a b", "apart"),
            ("certify a e", "kind"), ("certify f f", "refused"), ("certify g g", "large"), ("certify a zz", "none"),
        )
        self.assert_answers(
            ("let a = g(val, exp) : exp |- exp : g(2, 1)", "ok"), ("let b = g(val, exp) : exp |- exp : g(2, 0)", "ok"),
            ("differ a b", "? g?2 g.2? g.2!0 : b"), ("differ b a", "? g?2 g.2? g.2!0 : b"),
            ("let a = g(val, exp) : exp |- exp : fault", "ok"), ("differ a b", "? !! : a"), ("differ b a", "? !! : a"),
            ("let a = g(val, exp) : exp |- exp : stop", "ok"), ("differ a b", "? g?2 : b"),
        )

    def test_witnesses(self):
        self.assert_answers(
            (f"let a = {ONCE}", "ok"), (f"let b = {TWICE}", "ok"), ("witness a b c", "ok"), ("fill c b e", "ok"), ("run e", "never"),
            ("witness a a c", "same"), ("fill c a d", "ok"), ("let e = |- com : skip", "ok"),
            ("witness a e c", "kind"), (f"let e = p : com |- com : {LONG}", "ok"), (f"let f = p : com |- com : {LONG}; p", "ok"),
            ("witness e f g", "large"), ("show g", "none"), ("witness a zz g", "none"), ("let e = hole : com |- com : hole", "ok"),
            ("let f = hole : com |- com : skip", "ok"), ("witness e f g", "name"), ("differ e f", "? !0 : f"),
        )

    def test_what_witnesses_show(self):
        # How many steps it takes is not promised.
        answers = run_lines(f"let a = {ONCE}", f"let b = {TWICE}", "witness a b c", "fill c a d", "run d", "fill c b d", "run d",
                            "witness b a c", "fill c a d", "run d", "fill c b d", "run d")
        self.assertEqual([answer.split(" ")[0] for answer in answers[2:]], ["ok", "ok", "faulted", "ok", "never"] * 2)

    def test_modules(self):
        self.assert_answers(
            (f"module m = {UP}", "ok"), (f"module n = {DOWN}", "ok"), ("twin m n", "yes"), ("twin m m", "yes"),
            ("module o = inc : com { skip }; get : exp [ 0 ]", "ok"), ("twin m o", "no"), ("module p = get : exp [ 0 ]", "ok"), ("twin m p", "kind"),
            ("module p = get : exp [ x ]", "name"), ("twin p p", "yes"), ("module p = new x = 0; get : exp [ x({ skip }) ]", "kind"),
            ("module p = new call = 0; get : exp [ call ]", "refused"), ("module p = ", "form"), ("module p =", "bad"), ("module q = x", "form"),
            ("twin p q", "none"), ("twin q p", "none"), ("module p = p : com { " + "; ".join(["skip"] * 201) + " }", "large"),
            ("module   p = get : exp [ 0 ]", "bad"), (f"module p =    {UP}   ", "ok"), ("twin p n", "yes"),
        )

    def test_pieces_and_modules_of_the_same_name(self):
        self.assert_answers(
            (f"module a = {UP}", "ok"), ("show a", "none"), ("run a", "none"), (f"let a = {ONCE}", "ok"), ("show a", ONCE), ("twin a a", "yes"),
            (f"let b = {TWICE}", "ok"), ("twin a b", "none"), (f"module b = {DOWN}", "ok"), ("twin b a", "yes"), ("show b", TWICE),
            ("same a b", "no"),
        )

    def test_rules(self):
        self.assert_answers(
            ("let a = p : com |- com : skip; p", "ok"), (f"let b = {ONCE}", "ok"), ("let c = |- com : skip; skip; fault", "ok"),
            ("apply 0 c 0 d", "missing"), ("simplify c d", "-"), ("show d", "|- com : skip; skip; fault"), ("rule a b", "ok"),
            ("simplify c d", "0 0"), ("show d", "|- com : fault"), ("apply 0 c 0 e", "apart"), ("show e", "none"), ("apply 0 c 1 e", "ok"),
            ("show e", "|- com : skip; fault"), ("apply 0 c 99 e", "refused"), ("apply 1 c 0 e", "missing"), ("apply 999 zz 0 e", "none"),
            ("apply 00 c 0 e", "bad"), ("show e", "|- com : skip; fault"), ("simplify zz e", "none"), ("simplify c c", "0 0"),
            ("show c", "|- com : fault"), ("rule b a", "ok"), ("apply 1 e 0 e", "ok"), ("show e", "|- com : skip; skip; fault"),
            ("simplify e e", "0 0"),
        )
        self.assert_answers(
            (f"let a = {ONCE}", "ok"), (f"let b = {TWICE}", "ok"), ("rule a b", "apart"), ("let c = |- com : skip", "ok"), ("rule a c", "kind"),
            ("let c = p : com |- com : skip", "ok"), ("rule c a", "name"), (f"let f = {BEYOND}", "ok"), ("rule f f", "kind"),
            (f"let g = {LARGE}", "ok"), ("rule g g", "large"), ("rule a zz", "none"), ("simplify b d", "-"), ("rule a a", "ok"),
            ("apply 0 b 1 d", "ok"), ("show d", TWICE),
        )
        # A thirteenth rule is too many, whatever its sides are.
        lines = [(f"let a = {ONCE}", "ok"), (f"let b = {TWICE}", "ok")] + [("rule a a", "ok")] * 12 + [("rule a a", "large"), ("rule a b", "large")]
        self.assert_answers(*lines, ("apply 11 b 1 c", "ok"), ("apply 12 b 1 c", "missing"))

    def test_one_application_of_a_rule_too_large(self):
        skips = "; ".join(["skip"] * 200)
        self.assert_answers(
            ("let a = p : com |- com : p", "ok"), ("let b = p : com |- com : if 1 { p } { p }", "ok"), ("rule a b", "ok"),
            (f"let c = |- com : {skips}", "ok"), ("apply 0 c 0 d", "large"), ("show d", "none"), ("apply 0 c 2 d", "large"),
            ("let e = |- exp : 1", "ok"), ("apply 0 e 0 d", "apart"), ("let e = |- com : skip", "ok"), ("apply 0 e 0 d", "ok"),
            ("show d", "|- com : if 1 { skip } { skip }"),
        )

    def test_code(self):
        self.assert_answers(
            ("let a = |- exp : 1 + 2", "ok"), ("code a", "4"), (f"let a = {ONCE}", "ok"), ("code a", "4"), (f"let a = {TWICE}", "ok"),
            ("code a", "6"), (f"let a = {BEYOND}", "ok"), ("code a", "15"), (f"let a = {LARGE}", "ok"), ("code a", "large"), ("code zz", "none"),
            ("code", "bad"),
        )

    def test_attacks(self):
        self.assert_answers(
            (f"let a = {ONCE}", "ok"), (f"let b = {TWICE}", "ok"), ("attack a b", "done faulted"), ("attack b a", "faulted done"),
            (f"let d = {STOPPED}", "ok"), ("attack a d", "done never"), ("attack d a", "never done"), ("let e = p : com |- com : fault", "ok"),
            ("attack a e", "done faulted"), ("attack e a", "faulted done"), ("attack a a", "same"), ("let f = |- com : skip", "ok"),
            ("attack a f", "kind"), (f"let g = {LARGE}", "ok"), ("attack a g", "large"), (f"let h = {BEYOND}", "ok"), ("attack h h", "refused"),
            (f"let i = p : com |- com : {LONG}", "ok"), (f"let j = p : com |- com : {LONG}; p", "ok"), ("attack i j", "large"), ("attack i zz", "none"),
            ("let k = hole : com |- com : hole", "ok"), ("let l = hole : com |- com : skip", "ok"), ("attack k l", "faulted done"),
            ("let k = e : exp |- exp : e", "ok"), ("let l = e : exp |- exp : e * e", "ok"), ("attack k l", "done faulted"),
            ("let k = e : exp |- exp : fault", "ok"), ("attack k l", "faulted done"), ("let l = e : exp |- exp : stop", "ok"),
            ("attack k l", "faulted never"),
        )

    def test_attacks_with_a_fault_that_both_do_not_make(self):
        # The play ends with the fault; the piece that does not have it answers.
        self.assert_answers(
            ("let a = e : exp |- exp : if e [ 1 ] [ fault ]", "ok"), ("let b = e : exp |- exp : if e [ 1 ] [ stop ]", "ok"),
            ("differ a b", "? e? e!0 !! : a"), ("attack a b", "faulted never"), ("attack b a", "never faulted"),
            ("let c = e : exp |- exp : if e [ 1 ] [ 2 ]", "ok"), ("differ a c", "? e? e!0 !2 : c"), ("attack a c", "faulted done"),
        )

    def test_lines_that_are_bad(self):
        self.assert_answers(
            (f"let a = {ONCE}", "ok"), ("show A", "bad"), ("show  a", "bad"), (" show a", "bad"), ("show a ", "bad"), ("show a b", "bad"),
            ("Show a", "bad"), ("show skip", "bad"), ("", ""), (" ", "bad"), ("apply 1000 a 0 b", "bad"), ("apply 0 a -1 b", "bad"),
            ("let skip = |- com : skip", "bad"), ("let a  = |- com : skip", "bad"), ("show a", ONCE), ("", ""), ("nothing", "bad"),
            # A line that is bad is so even if what it reads is not there, and `none` comes ahead of all errors.
            ("fill zz a", "bad"), ("fill zz a zz zz", "bad"), ("apply 9 zz 999 zz", "none"), ("same a zz", "none"), ("same zz zz", "none"),
        )


class ScriptTest(DeskCase):
    def test_each_script_has_a_desk_of_its_own(self):
        for _ in range(2):
            self.assert_answers(("show a", "none"), ("twin a a", "none"), ("apply 0 a 0 a", "none"), (f"let a = {ONCE}", "ok"),
                                ("apply 0 a 0 a", "missing"), ("rule a a", "ok"), (f"module a = {UP}", "ok"), ("apply 0 a 0 a", "ok"))

    def test_lengths(self):
        for size in (0, 1, 2999, 3000, 3001, 10000):
            script = "x" * size
            if size <= 3000:
                self.assertEqual(run_script(script), ["bad" if size else ""])
            else:
                self.assertIs(error_of(run_script, script), NotAllowed)
            if size > 20:
                script = "let a = |- com : skip" + " " * (size - 26) + "\n" * 5
                self.assertEqual(len(script), size)
                if size <= 3000:
                    self.assertEqual(run_script(script), ["ok"] + [""] * 5)
                else:
                    self.assertIs(error_of(run_script, script), NotAllowed)

    def test_lines(self):
        for count in (1, 2, 39, 40, 41, 60):
            for line, answer in (("", ""), ("show a", "none"), ("x", "bad")):
                script = "\n".join([line] * count)
                if count <= 40:
                    self.assertEqual(run_script(script), [answer] * count)
                else:
                    self.assertIs(error_of(run_script, script), NotAllowed)
        self.assertEqual(run_script("\n"), ["", ""])
        self.assertIs(error_of(run_script, "\n" * 40), NotAllowed)
        self.assertEqual(run_script("\n" * 39), [""] * 40)

    def test_answers_that_were_returned_may_be_changed(self):
        script = f"let a = {ONCE}\nshow a"
        answers = run_script(script)
        answers.clear()
        self.assertEqual(run_script(script), ["ok", ONCE])


def expected(function, *args):
    """What a function is answered with: its value, or the word of its error."""
    try:
        return function(*args)
    except DoppelError as error:
        return WORDS[error.__class__]


def told_run(result):
    return {"done": f"done {result[1]} {result[2]}", "faulted": f"faulted {result[2]}", "never": "never"}[result[0]]


def attacked(first, second):
    play, _ = difference(first, second)
    codes = [compile_piece(first), compile_piece(second)]
    around, entry = around_of(first[0], first[1], play)
    return " ".join(run_code(code, around, entry)[0] for code in codes)


def differing(first, second):
    play, is_first = difference(first, second)
    return " ".join(move_text(first[0], move) for move in play) + (" : a" if is_first else " : b")


class ComparedTest(unittest.TestCase):
    def test_the_same_as_the_functions(self):
        told = {}
        made = [piece for piece in playful_pieces(160, 4, 97) if error_of(check_piece, piece) is None and len(piece_text(piece)) < 700]
        pairs = [(piece, other) for piece in made for other in changed(piece)[:1] if error_of(check_piece, other) is None]
        pairs += [(piece, next(other for other in made[at + 1:] + made if other[:2] == piece[:2])) for at, piece in enumerate(made)]
        for first, second in pairs:
            lines = ["same a b", "differ a b", "certify a b", "attack a b", "code a", "run a", "rule a b", "witness a b c", "show c", "fill c a d",
                     "run d", "show d", "simplify a e", "show e"]
            answers = run_lines(f"let a = {piece_text(first)}", f"let b = {piece_text(second)}", *lines)[2:]
            self.assertEqual(answers, self.answers_of(first, second))
            told[answers[0]] = told.get(answers[0], 0) + 1
        self.assertGreater(min(told["yes"], told["no"]), 40)

    def answers_of(self, first, second):
        book = Book()
        answers = [
            expected(lambda: "yes" if same(first, second) else "no"), expected(differing, first, second),
            expected(lambda: str(len(certify(first, second)))), expected(attacked, first, second),
            expected(lambda: str(len(compile_piece(first)))), expected(lambda: told_run(run(first))),
            expected(lambda: "ok" if book.add(first, second) is None else ""),
        ]
        context = expected(witness, first, second)
        if isinstance(context, str):
            answers += [context, "none", "none", "none", "none"]
        else:
            filled = expected(fill, context, first)
            answers += ["ok", piece_text(context)]
            answers += [filled, "none", "none"] if isinstance(filled, str) else ["ok", expected(lambda: told_run(run(filled))), piece_text(filled)]
        piece, indexes = book.simplify(first)
        return answers + [" ".join(map(str, indexes)) or "-", piece_text(piece)]

    def test_modules(self):
        texts = [UP, DOWN, "inc : com { skip }; get : exp [ 0 ]", "p : com { fault }; q : exp [ 1 ]", "p : com { skip }"]
        for one in texts:
            for two in texts:
                told = expected(lambda: "yes" if same_modules(read_module(one), read_module(two)) else "no")
                self.assertEqual(run_lines(f"module a = {one}", f"module b = {two}", "twin a b"), ["ok", "ok", told])


if __name__ == "__main__":
    unittest.main()
