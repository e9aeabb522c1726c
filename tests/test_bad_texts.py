"""[1.9], [1.10]: texts that do not follow the grammar, or nest too deep."""

import unittest

from doppelganger.errors import BadForm, BadName, TooLarge
from doppelganger.reader import read_piece
from helpers import ONE, error_of, program, tokens

# Texts of which no beginning but the whole is a piece.
CLOSED = [
    "|- com : if 1 { skip } { stop }", "|- com : while 1 { skip; stop }", "|- com : block k { exit k }",
    "|- com : new x = 1 { x := x + 1 }", "|- com : proc p(a : com, b : val) : exp [ do { a } [ b ] ] { skip }",
    "|- com : proc p() : com { skip } { p; p }", "|- exp : ((1 + 2) * (2))", "|- exp : if 1 == 1 [ 0 ] [ 1 < 2 ]",
    "|- exp : new x = 1 [ x ]", "|- exp : do { skip } [ 1 ]", "|- exp : proc p(a : exp) : com { skip } [ 1 ]",
]
ALL_TOKENS = [
    "|-", ":=", "==", ",", ":", ";", "=", "<", "+", "-", "*", "(", ")", "{", "}", "[", "]", "0", "3", "skip", "stop", "fault",
    "exit", "if", "while", "new", "block", "proc", "do", "com", "exp", "val", "x", "abcd", "abcde",
]


class BadTextsTest(unittest.TestCase):
    def assert_bad(self, text):
        with self.subTest(text):
            self.assertIs(error_of(read_piece, text), BadForm)

    def assert_good(self, text):
        with self.subTest(text):
            self.assertIsNone(error_of(read_piece, text))


class BreakingOffTest(BadTextsTest):
    def test_whole_texts(self):
        for text in CLOSED:
            self.assert_good(text)

    def test_texts_that_break_off(self):
        for text in CLOSED:
            found = tokens(text)
            for size in range(len(found)):
                self.assert_bad(" ".join(found[:size]))
            for size in range(len(text)):
                # A beginning of a word may be a name, and so a piece.
                if not text[max(size - 1, 0):size + 1].isalpha():
                    self.assert_bad(text[:size])

    def test_texts_that_go_on(self):
        for text in CLOSED:
            goes_on = (";",) if text.startswith("|- com") else ("==", "<", "+", "-", "*")
            for token in ALL_TOKENS:
                self.assert_bad(f"{text} {token}")
                if token not in goes_on:
                    self.assert_bad(f"{text} {token} 1")
                    self.assert_bad(f"{text} {token} skip")

    def test_texts_with_a_token_left_out(self):
        for text in CLOSED:
            found = tokens(text)
            for at, token in enumerate(found):
                if token in "|-:{}[]();=,":
                    left_out = found[:at] + found[at + 1:]
                    self.assert_bad(" ".join(left_out))

    def test_texts_with_a_token_twice(self):
        for text in CLOSED:
            found = tokens(text)
            for at, token in enumerate(found):
                if token not in "()":
                    self.assert_bad(" ".join(found[:at] + [token] + found[at:]))

    def test_empty_texts(self):
        for text in ("", " ", "      ", "|-", "com", ":", "skip", "|- skip", "|- com", "|- com :", "|- exp : ", "|- : skip",
                     "com : skip", "|- val : 1", "|- com skip", "|- exp 1", "- com : skip", "| - com : skip", "|= com : skip"):
            self.assert_bad(text)


class SignsTest(BadTextsTest):
    def test_signs_that_are_not_in_the_grammar(self):
        for code in list(range(32)) + list(range(33, 127)) + [127, 0xA0, 0xE4, 0x2003, 0x0663, 0xFF41]:
            sign = chr(code)
            if sign not in "|:=,;<+-*(){}[]0123456789abcdefghijklmnopqrstuvwxyz":
                self.assert_bad(f"|- com : skip{sign}")
                self.assert_bad(f"{sign}|- com : skip")
                self.assert_bad(f"|- com : skip {sign} ; skip")
                self.assert_bad(f"|- exp : 1 {sign}+ 1")
                self.assert_bad(f"|- exp : new a{sign} = 1 [ 1 ]")

    def test_newlines_and_tabs_are_no_spaces(self):
        for sign in "\n\t\r\f\v":
            self.assert_bad(f"|- com : skip;{sign}skip")
            self.assert_bad(f"|- com : skip{sign}")

    def test_marks_that_break_off(self):
        for text in ("|com : skip", "|-| com : skip", "|- com : skip |", "|", "|- exp : 1 = 1", "|- exp : 1 = = 1",
                     "|- com : new x = 1 { x : = 1 }", "|- com : new x = 1 { x = 1 }", "|- com : new x := 1 { skip }",
                     "|- com : new x == 1 { skip }"):
            self.assert_bad(text)

    def test_marks_beside_each_other(self):
        for text in ("|- exp : 1 === 1", "|- exp : 1 ==== 1", "|- com : new x ==1 { skip }", "|- com : new x = 1 { x ::= 1 }",
                     "|- com : new x = 1 { x :== 1 }", "|- com : new x = 1 { x :=== 1 }", "|-- com : skip", "|-|- com : skip",
                     "p :: com |- com : skip", "p := com |- com : skip", "|- := skip", "|- com := skip", "|- exp : 1--1",
                     "|- exp : 1 - - 1", "|- exp : 1+-1", "|- exp : -1", "|- exp : 1 <== 1", "|- exp : 1 =< 1", "|- exp : 1 <= 1",
                     "|- exp : 1 << 1", "|- exp : 1 ** 1"):
            self.assert_bad(text)
        for text in ("|-exp:1==1", "|-exp:(1)==(1)", "p:com|-com:p", "p:com,q:exp|-com:p", "|-com:new x=1{x:=(1)}",
                     "|-exp:if(1)[1][1]==(1)", "|-exp:do{skip}[(1)]-(1)"):
            self.assert_good(text)

    def test_words_that_run_together(self):
        for text in ("|- com : blockk { skip }", "|- com : newx = 1 { skip }", "|- com : exitk", "|- com : block k { exitk }",
                     "|- com : while1 { skip } { skip }", "|- exp : ifx [ 1 ] [ 1 ]", "|- com : procp() : com { skip } { skip }",
                     "|- com : skipskip", "|- com : skip skip", "|- exp : 1 1", "|- exp : 12", "|- exp : 0 0", "|- exp : x1",
                     "|- com : new x1 = 1 { skip }", "|- com : new 1x = 1 { skip }", "|- exp : x y", "x y : com |- com : skip",
                     "|- com : sk ip", "|- com : sto p", "|- com : if 1 {skip} { skip } skip", "|- co m : skip"):
            self.assert_bad(text)
        for text in ("|-com:while1{skip}", "|-com:if1{skip}{skip}", "|-exp:if1[1][1]", "|-exp:do{skip}[1]",
                     "|-com:new x=1{while x{skip}}", "|-com:block k{exit k}", "|-exp:if(1)[1][1]"):
            self.assert_good(text)

    def test_words_longer_than_a_name(self):
        for word in ("abcde", "whiles", "blocks", "faults", "skips", "aaaaaaaaaaaaaaaaaaaa", "fault", "while", "block"):
            for text in ("|- com : {} := 1", "|- com : new {} = 1 [ skip ]", "|- com : new {} = 1 {{ skip }}",
                         "|- com : block {} {{ skip }}", "|- com : exit {}", "{} : com |- com : skip",
                         "|- com : proc {}() : com {{ skip }} {{ skip }}", "|- com : proc f({} : com) : com {{ skip }} {{ skip }}",
                         "|- com : {}(1)"):
                self.assert_bad(text.format(word))

    def test_reserved_words_as_names(self):
        for word in ("skip", "stop", "if", "new", "proc", "exit", "do", "com", "exp", "val"):
            for text in ("|- com : {} := 1", "|- com : new {} = 1 {{ skip }}", "|- com : block {} {{ skip }}", "|- com : exit {}",
                         "{} : com |- com : skip", "|- com : proc {}() : com {{ skip }} {{ skip }}", "|- com : {}(1)",
                         "|- com : proc f({} : com) : com {{ skip }} {{ skip }}", "|- exp : {}(1)"):
                self.assert_bad(text.format(word))

    def test_digits_out_of_range(self):
        for digit in "3456789":
            for text in ("|- exp : {}", "|- exp : 1 + {}", "|- com : new x = {} {{ skip }}", "|- com : while {} {{ skip }}",
                         "p(exp) : com |- com : p({})", "|- exp : ({})"):
                self.assert_bad(text.format(digit))


class FormsTest(BadTextsTest):
    def test_forms_of_the_other_kind(self):
        for text in ("|- com : 1", "|- com : 1 + 1", "|- com : (skip)", "|- com : do { skip } [ 1 ]", "|- com : x == 1",
                     "|- exp : skip", "|- exp : x := 1", "|- exp : skip; skip", "|- exp : 1; 1", "|- exp : while 1 { skip }",
                     "|- exp : block k { skip }", "|- exp : block k [ 1 ]", "|- exp : while 1 [ 1 ]", "|- exp : { skip }",
                     "|- com : { skip }", "|- exp : [ 1 ]", "|- com : if 1 [ skip ] [ skip ]", "|- exp : if 1 { 1 } { 1 }",
                     "|- com : if 1 { skip } [ 1 ]", "|- com : new x = 1 [ 1 ]", "|- exp : new x = 1 { skip }",
                     "|- exp : do [ 1 ] [ 1 ]", "|- exp : do { 1 } [ 1 ]", "|- exp : do { skip } { skip }", "|- exp : do { skip } [ skip ]",
                     "|- com : while skip { skip }", "|- com : proc p() : com [ 1 ] { skip }", "|- com : proc p() : exp { skip } { skip }",
                     "|- com : proc p() : com { skip } [ 1 ]", "|- exp : proc p() : com { skip } { skip }"):
            self.assert_bad(text)

    def test_rows(self):
        for text in ("|- com : skip;", "|- com : ; skip", "|- com : skip;; skip", "|- com : ;", "|- com : while 1 { }",
                     "|- com : while 1 { skip; }", "|- com : skip, skip", "|- com : if 1 { skip }", "|- com : (skip; skip)"):
            self.assert_bad(text)

    def test_operators(self):
        for text in ("|- exp : 1 +", "|- exp : + 1", "|- exp : 1 + * 1", "|- exp : ()", "|- exp : (1", "|- exp : 1)", "|- exp : (1))",
                     "|- exp : 1 == 1 == 1", "|- exp : 1 < 1 < 1", "|- exp : 1 == 1 < 1", "|- exp : 1 < 1 == 1",
                     "|- exp : 1 + 1 == 1 + 1 == 1", "|- exp : (1 == 1 < 1)", "|- exp : 1 == 1 + (1 < 1 < 1)", "|- exp : 1 == == 1"):
            self.assert_bad(text)
        self.assert_good("|- exp : (1 == 1) == (1 < 1)")

    def test_calls(self):
        for text in ("|- com : p()", "|- exp : p()", "|- com : p(", "|- com : p(1", "|- com : p(1,)", "|- com : p(,1)", "|- com : p(1 1)",
                     "|- com : p(1;1)", "|- com : p({ skip }", "|- com : p({ })", "|- com : p(skip)", "|- com : p({ 1 })", "|- com : p[1]",
                     "|- com : p(1)(1)", "|- com : p(1, 1, 1)", "|- exp : p({ skip }, 1, { skip })", "|- com : p((1)", "|- com : p{ skip }"):
            self.assert_bad(text)

    def test_heads(self):
        for head in ("p : com", "p(", "p()", "p() com", "p() :", "p() : val", "p() : x", "p(a) : com", "p(a :) : com", "p(: com) : com",
                     "p(a : x) : com", "p(a : com,) : com", "p(a : com b : com) : com", "p(com) : com", "p(a : com, a : com) : com",
                     "p(a : com, a : val) : com", "p(a : com, b : com, c : com) : com", "(a : com) : com", "p(a = com) : com"):
            self.assert_bad(f"|- com : proc {head} {{ skip }} {{ skip }}")
            self.assert_bad(f"|- exp : proc {head} {{ skip }} [ 1 ]")
        for head in ("p() : com", "p(a : com) : com", "p(a : exp, b : val) : com", "p(p : com) : com"):
            self.assert_good(f"|- com : proc {head} {{ skip }} {{ skip }}")

    def test_declarations(self):
        for decls in ("p", "p :", "p com", ": com", "p : val", "p : x", "p : 1", "p() : com", "p(x) : com", "p(com : com", "p(com,) : com",
                      "p(, com) : com", "p(com com) : com", "p(a : com) : com", "p : com,", ", p : com", "p : com q : com", "p : com; q : com",
                      "p : com, p : com", "p : com, p : exp", "p : com, q : com, p(val) : com", "a : com, b : com, c : com, d : com",
                      "p(com, com, com) : com", "p : com, , q : com", "{ p : com }", "(p : com)", "p = com", "p : com : com"):
            self.assert_bad(f"{decls} |- com : skip")
        for decls in ("a : com, b : com, c : com", "p(com, com) : com", "c : com, a : com"):
            self.assert_good(f"{decls} |- com : skip")

    def test_turnstile(self):
        for text in ("p : com com : skip", "p : com", "p : com |-", "|- |- com : skip", "p : com |- q : com |- com : skip"):
            self.assert_bad(text)


class OrderOfErrorsTest(BadTextsTest):
    def test_form_comes_before_names(self):
        for text in ("|- com : x := 1; )", "|- com : x; y; z(", "|- exp : x + 3", "|- com : p(1, 1, 1)", "x : com, x : com |- exp : y",
                     "|- exp : exit k + abcde", "|- com : " + ";".join(["x"] * 900) + ";"):
            self.assert_bad(text)

    def test_form_comes_before_size(self):
        self.assert_bad("|- com : " + ";".join(["skip"] * 900) + ";")
        self.assert_bad("|- exp : " + "+".join(["1"] * 900) + "+")
        self.assertIs(error_of(read_piece, "|- com : " + ";".join(["skip"] * 900)), TooLarge)

    def test_length(self):
        for text in ("|- com : skip", "|- com : x", "p : com |- com : p"):
            self.assertIsNot(error_of(read_piece, text.ljust(6000)), BadForm)
            self.assert_bad(text.ljust(6001))
            self.assert_bad(text.rjust(6001))
        self.assert_bad("|-com:" + ";".join(["skip"] * 1200))
        self.assert_bad(" " * 6001)
        self.assert_bad("(" * 100000)


class NestingTest(BadTextsTest):
    """A step or an atom may stand within at most 69 others."""

    def assert_nesting(self, front, opening, inner, closing, behind, already=0):
        """The opening is a step or an atom around the inner one; `already` ones stand around them all."""
        for within in (68, 69, 70, 71, 400):
            times = within - already
            text = front + opening * times + inner + closing * times + behind
            with self.subTest(text=front + opening, within=within):
                if len(text) <= 6000:
                    self.assertEqual(error_of(read_piece, text) is BadForm, within > 69)

    def test_parentheses(self):
        self.assert_nesting("|-exp:", "(", "1", ")", "")
        self.assert_nesting("|-exp:", "(1+", "1", ")", "")
        self.assert_nesting("|-exp:", "(1*1==", "1", ")", "")
        self.assert_nesting("|-exp:1+", "(", "1", ")", "*2")
        self.assert_nesting("e:exp|-exp:", "(", "e", ")", "")
        self.assert_nesting("|-com:new x=", "(", "1", ")", "{skip}", 1)

    def test_parentheses_alone_make_no_levels(self):
        text = "|- exp : " + "(" * 69 + "1" + ")" * 69
        self.assertEqual(read_piece(text), program("exp", ONE))

    def test_conditions(self):
        self.assert_nesting("|-exp:", "if ", "1", "[1][1]", "")
        self.assert_nesting("|-exp:", "if 1[", "1", "][1]", "")
        self.assert_nesting("|-exp:", "if 1[1][", "1", "]", "")
        self.assert_nesting("|-com:", "if 1{", "skip", "}{skip}", "")
        self.assert_nesting("|-com:", "if 1{skip;skip}{skip;", "skip", ";skip}", "")
        self.assert_nesting("|-com:", "while 1{", "skip", "}", "")
        self.assert_nesting("|-com:while ", "if ", "1", "[1][1]", "{skip}", 1)

    def test_calls(self):
        self.assert_nesting("f(exp):exp|-exp:", "f(", "1", ")", "")
        self.assert_nesting("f(exp):exp|-exp:", "f(1,", "1", ")", "")
        self.assert_nesting("f(exp):exp|-exp:", "f(", "f", ")", "")
        self.assert_nesting("f(com):com|-com:", "f({", "skip", "})", "")
        self.assert_nesting("f(com):com|-com:", "f(1,{skip;", "f", "})", "")
        self.assert_nesting("f(exp):com|-com:f(", "(", "1", ")", ")", 1)

    def test_blocks(self):
        self.assert_nesting("|-com:", "block k{", "exit k", "}", "")
        self.assert_nesting("|-com:", "new x=1{", "x:=1", "}", "", 1)
        self.assert_nesting("|-com:", "new x=1{", "skip", "}", "")
        self.assert_nesting("|-exp:", "new x=1[", "x", "]", "")
        self.assert_nesting("|-exp:", "new x=", "1", "[x]", "")
        self.assert_nesting("|-com:", "proc p():com{", "skip", "}{p}", "")
        self.assert_nesting("|-com:", "proc p():com{skip}{", "p", "}", "")
        self.assert_nesting("|-exp:", "proc p(a:val):exp[", "a", "][p(1)]", "", 1)

    def test_steps_and_atoms_are_counted_together(self):
        self.assert_nesting("|-exp:", "do{skip}[", "1", "]", "")
        for within in (67, 69, 71, 73):
            times = (within - 1) // 2
            text = "|-exp:" + "do{while " * times + "(1)" + "{skip}}[1]" * times
            self.assertEqual(error_of(read_piece, text) is BadForm, within > 69)

    def test_deepest_part_decides(self):
        deep = "(" * 70 + "1" + ")" * 70
        for text in (f"|-exp:1+{deep}", f"|-exp:{deep}*1", f"|-com:skip;new x={deep[1:-1]}{{skip}}",
                     f"|-com:if 1{{skip}}{{new x={deep[2:-2]}{{skip}}}}", f"f(com,exp):exp|-exp:f({{skip}},{deep[1:-1]})"):
            self.assert_bad(text)

    def test_neighbours_do_not_count(self):
        self.assert_good("|- com : " + "; ".join(["while 1 { skip }"] * 100))
        self.assert_good("|- com : " + "; ".join(["block k { exit k }"] * 100))
        half = "(" * 60 + "1" + ")" * 60
        self.assert_good(f"|- exp : {half} + {half} + {half}")
        self.assertIs(error_of(read_piece, "|-exp:" + "+".join(["(1)"] * 1400)), TooLarge)

    def test_deep_texts_that_are_not_too_deep_have_other_errors(self):
        for times, expected in ((29, None), (30, TooLarge), (69, TooLarge), (70, BadForm), (500, BadForm)):
            self.assertIs(error_of(read_piece, "|-com:" + "while 1{" * times + "skip" + "}" * times), expected)
        for times in (1, 30, 69):
            self.assertIs(error_of(read_piece, "|-com:" + "while 1{" * times + "p" + "}" * times), BadName)

    def test_very_deep_texts_that_break_off(self):
        for opening in ("(", "if ", "f(", "do{while ", "new x=", "proc p():exp["):
            self.assert_bad("|-exp:" + opening * (5900 // len(opening)))


if __name__ == "__main__":
    unittest.main()
