"""[1.1], [1.3], [1.5]: names, rows, and the nodes and levels of terms."""

import unittest

from doppelganger.terms import is_name, kids, nodes, row
from helpers import ONE, PLAIN, PLACES, SKIP, row_of, sum_of

RESERVED = ["skip", "stop", "if", "new", "proc", "exit", "do", "com", "exp", "val"]
STOP = ("stop",)
FAULT = ("fault",)


class NameTest(unittest.TestCase):
    def test_lengths(self):
        self.assertEqual([is_name("x" * size) for size in range(7)], [False, True, True, True, True, False, False])

    def test_each_letter(self):
        for letter in "abcdefghijklmnopqrstuvwxyz":
            self.assertTrue(is_name(letter))
            self.assertTrue(is_name(f"q{letter}"))

    def test_each_other_sign(self):
        for code in range(32, 127):
            sign = chr(code)
            if not "a" <= sign <= "z":
                for text in (sign, f"a{sign}", f"{sign}a", f"a{sign}b"):
                    with self.subTest(text):
                        self.assertFalse(is_name(text))

    def test_reserved_words(self):
        for word in RESERVED:
            self.assertFalse(is_name(word), word)

    def test_words_near_the_reserved_ones(self):
        for word in RESERVED:
            for text in (word[:-1], f"{word}a"[-4:]):
                if text not in RESERVED:
                    self.assertTrue(is_name(text), text)

    def test_other_words_of_the_language_are_too_long(self):
        for word in ("fault", "while", "block"):
            self.assertFalse(is_name(word), word)

    def test_words_of_tuples_that_are_names(self):
        for word in ("seq", "set", "num", "read", "add", "sub", "mul", "less", "call", "hole"):
            self.assertTrue(is_name(word), word)

    def test_returns_a_truth_value(self):
        self.assertIs(is_name("x"), True)
        self.assertIs(is_name(""), False)


class KidsTest(unittest.TestCase):
    def test_terms_without_parts(self):
        for kind, term in [("com", SKIP), ("com", STOP), ("exp", STOP), ("com", FAULT), ("exp", FAULT), ("exp", ONE),
                           ("exp", ("read", "x")), ("com", ("exit", "k")), ("exp", ("exit", "k")),
                           ("com", ("call", "p", ())), ("exp", ("call", "p", ()))]:
            with self.subTest(term):
                self.assertEqual(kids(term, kind), [])

    def test_commands(self):
        for term, expected in [
            (("seq", STOP, SKIP), [("com", STOP), ("com", SKIP)]),
            (("seq", ("seq", STOP, SKIP), FAULT), [("com", ("seq", STOP, SKIP)), ("com", FAULT)]),
            (("set", "x", ONE), [("exp", ONE)]),
            (("while", ONE, SKIP), [("exp", ONE), ("com", SKIP)]),
            (("block", "k", SKIP), [("com", SKIP)]),
        ]:
            with self.subTest(term):
                self.assertEqual(kids(term, "com"), expected)

    def test_expressions(self):
        for word in ("add", "sub", "mul", "equal", "less"):
            with self.subTest(word):
                self.assertEqual(kids((word, STOP, ONE), "exp"), [("exp", STOP), ("exp", ONE)])
        self.assertEqual(kids(("do", STOP, ONE), "exp"), [("com", STOP), ("exp", ONE)])

    def test_parts_of_the_kind_of_the_whole(self):
        for kind in ("com", "exp"):
            other = PLAIN[kind]
            with self.subTest(kind):
                self.assertEqual(kids(("if", ONE, STOP, other), kind), [("exp", ONE), (kind, STOP), (kind, other)])
                self.assertEqual(kids(("new", "x", ONE, other), kind), [("exp", ONE), (kind, other)])

    def test_proc_has_the_body_and_then_the_block(self):
        for kind in ("com", "exp"):
            for result in ("com", "exp"):
                term = ("proc", "f", (("a", "com"), ("b", "val")), result, FAULT, STOP)
                with self.subTest(kind=kind, result=result):
                    self.assertEqual(kids(term, kind), [(result, FAULT), (kind, STOP)])

    def test_call_has_its_arguments(self):
        for kind in ("com", "exp"):
            args = (("exp", STOP), ("com", FAULT))
            self.assertEqual(kids(("call", "f", args), kind), [("exp", STOP), ("com", FAULT)])
            self.assertEqual(kids(("call", "f", args[1:]), kind), [("com", FAULT)])

    def test_values_are_a_list_of_tuples(self):
        found = kids(("call", "f", (("exp", ONE),)), "com")
        self.assertIs(found.__class__, list)
        self.assertIs(found[0].__class__, tuple)


class NodesTest(unittest.TestCase):
    def test_parts_of_each_form_have_the_next_level(self):
        for name, kind, part_kind, wrap in PLACES:
            with self.subTest(name):
                term = wrap(STOP)
                found = nodes(term, kind)
                self.assertEqual(found[0], (kind, term, 1))
                self.assertEqual(found[1:], [(each, part, 2) for each, part in kids(term, kind)])
                self.assertIn((part_kind, STOP, 2), found)

    def test_order_is_each_node_before_the_nodes_within_it(self):
        add = ("add", ("read", "x"), ONE)
        call = ("call", "f", (("exp", add), ("com", FAULT)))
        proc = ("proc", "g", (), "exp", ("do", STOP, ONE), call)
        self.assertEqual(nodes(proc, "com"), [
            ("com", proc, 1), ("exp", ("do", STOP, ONE), 2), ("com", STOP, 3), ("exp", ONE, 3),
            ("com", call, 2), ("exp", add, 3), ("exp", ("read", "x"), 4), ("exp", ONE, 4), ("com", FAULT, 3),
        ])

    def test_steps_of_a_row_are_on_one_level(self):
        inner = ("seq", ("seq", SKIP, STOP), FAULT)
        self.assertEqual(nodes(inner, "com"), [
            ("com", inner, 1), ("com", ("seq", SKIP, STOP), 1), ("com", SKIP, 2), ("com", STOP, 2), ("com", FAULT, 2),
        ])

    def test_row_within_a_form(self):
        inner = ("seq", ("seq", SKIP, STOP), ("set", "x", ONE))
        term = ("while", ONE, inner)
        self.assertEqual([level for _, _, level in nodes(term, "com")], [1, 2, 2, 2, 3, 3, 3, 4])

    def test_row_that_is_no_first_part_of_a_row_has_the_next_level(self):
        pair = ("seq", SKIP, SKIP)
        term = ("seq", SKIP, ("block", "k", pair))
        self.assertEqual([level for _, _, level in nodes(term, "com")], [1, 2, 2, 3, 4, 4])
        term = ("seq", ("block", "k", pair), SKIP)
        self.assertEqual([level for _, _, level in nodes(term, "com")], [1, 2, 3, 4, 4, 2])

    def test_sum_has_a_level_for_each_operand(self):
        found = nodes(sum_of(4), "exp")
        self.assertEqual([level for _, _, level in found], [1, 2, 3, 4, 4, 3, 2])

    def test_long_row(self):
        for count in (300, 700, 3000):
            steps = [("set", "x", ("num", at % 3)) for at in range(count)]
            found = nodes(row_of(steps), "com")
            with self.subTest(count):
                self.assertEqual(len(found), 3 * count - 1)
                self.assertEqual([node[0] for _, node, _ in found[:count - 1]], ["seq"] * (count - 1))
                self.assertEqual([node for _, node, level in found if level == 2], steps)
                self.assertEqual([level for _, _, level in found[:count - 1]], [1] * (count - 1))
                self.assertEqual([level for _, _, level in found[count - 1:]], [2, 3] * count)

    def test_long_sum(self):
        found = nodes(sum_of(3000), "exp")
        self.assertEqual(len(found), 5999)
        self.assertEqual(max(level for _, _, level in found), 3000)

    def test_values_are_a_list_of_tuples(self):
        found = nodes(SKIP, "com")
        self.assertIs(found.__class__, list)
        self.assertIs(found[0].__class__, tuple)


class RowTest(unittest.TestCase):
    def test_two_steps(self):
        self.assertEqual(row(SKIP, STOP), ("seq", SKIP, STOP))

    def test_row_and_step(self):
        self.assertEqual(row(("seq", SKIP, STOP), FAULT), ("seq", ("seq", SKIP, STOP), FAULT))

    def test_step_and_row(self):
        self.assertEqual(row(SKIP, ("seq", STOP, FAULT)), ("seq", ("seq", SKIP, STOP), FAULT))

    def test_two_rows(self):
        first = row_of([SKIP, STOP, FAULT])
        second = row_of([FAULT, SKIP, STOP])
        self.assertEqual(row(first, second), row_of([SKIP, STOP, FAULT, FAULT, SKIP, STOP]))
        self.assertEqual(row(first, second)[2], STOP)

    def test_rows_within_steps_stay(self):
        inner = ("block", "k", ("seq", SKIP, STOP))
        self.assertEqual(row(inner, ("seq", inner, SKIP)), ("seq", ("seq", inner, inner), SKIP))

    def test_two_long_rows(self):
        first = [("set", "x", ("num", at % 3)) for at in range(2000)]
        second = [("set", "y", ("num", at % 3)) for at in range(2000)]
        found = nodes(row(row_of(first), row_of(second)), "com")
        self.assertEqual([node for _, node, level in found if level == 2], first + second)


if __name__ == "__main__":
    unittest.main()
