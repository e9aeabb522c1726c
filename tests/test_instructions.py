"""[8.3]: well formed code."""

import unittest

from doppelganger.instructions import is_code

NONE = ["end", "fault", "stop", "pop", "open", "close", "add", "sub", "mul", "equal", "less", "unblock"]
# For each instruction one that is well formed in code of two instructions at least, and for each
# of its integers the greatest one that may stand there; -1 is the last place.
FORMS = [((word,), ()) for word in NONE] + [
    (("push", 1), (2,)), (("load", 0), (600,)), (("store", 1), (600,)), (("jump", 0), (-1,)), (("jzero", 1), (-1,)),
    (("block", 1), (-1,)), (("exit", 0), (600,)), (("call", 0, 0, 0), (600, 1, 2)), (("call", 1, 1, 2, 0), (600, 1, 2, -1)),
    (("call", 2, 0, 1, 1, 0), (600, 1, 2, -1, -1)),
]


def code_with(instruction, size, at):
    """Code of so many instructions, with the given one at a place."""
    return [("end",)] * at + [instruction] + [("end",)] * (size - at - 1)


class CodeTest(unittest.TestCase):
    def assert_code(self, instruction, expected, sizes=(2, 3, 600)):
        for size in sizes:
            for at in {0, 1, size - 1}:
                with self.subTest(instruction=instruction, size=size, at=at):
                    self.assertIs(is_code(code_with(instruction, size, at)), expected)

    def test_each_instruction(self):
        for instruction, _ in FORMS:
            self.assert_code(instruction, True)
        self.assertTrue(is_code([instruction for instruction, _ in FORMS]))

    def test_an_integer_more_or_less(self):
        for instruction, _ in FORMS:
            if instruction[0] != "call":
                self.assert_code(instruction + (0,), False)
                self.assert_code(instruction + (0, 0), False)
                self.assert_code(instruction[:-1], False)
        for instruction, expected in [
            (("call",), False), (("call", 0), False), (("call", 0, 0), False), (("call", 0, 0, 0), True), (("call", 0, 0, 0, 0), True),
            (("call", 0, 0, 0, 0, 0), True), (("call", 0, 0, 0, 0, 0, 0), False), (("call", 0, 0, 2, 1, 1), True),
            (("call", 0, 0, 0, 0, 0, 0, 0), False),
        ]:
            self.assert_code(instruction, expected)

    def test_integers_in_and_out_of_range(self):
        for instruction, mosts in FORMS:
            for at, most in enumerate(mosts):
                for size in (2, 3, 600):
                    last = size - 1 if most == -1 else most
                    for value in (-600, -2, -1, 0, 1, 2, 3, last - 1, last, last + 1, last + 2, 600, 601, 10 ** 6):
                        changed = instruction[:at + 1] + (value,) + instruction[at + 2:]
                        self.assert_code(changed, 0 <= value <= last, (size,))

    def test_words(self):
        for word in ("", "END", "ends", "halt", "nop", "read", "num", "set", "skip", "while", "new", "com", "1"):
            self.assert_code((word,), False)
            self.assert_code((word, 0), False)
        self.assert_code((), False)
        self.assert_code([], False)
        self.assert_code(["end"], False)
        self.assert_code("end", False)
        self.assert_code(None, False)
        self.assert_code((0,), False)
        self.assert_code((0, "end"), False)
        self.assert_code(("push", "1"), False)
        self.assert_code(("push", ()), False)

    def test_lengths(self):
        for size in (0, 1, 2, 599, 600, 601, 602, 2000):
            self.assertIs(is_code([("end",)] * size), 1 <= size <= 600)
            self.assertIs(is_code([("jump", 0)] * size), 1 <= size <= 600)
        for word in ("jump", "jzero", "block"):
            self.assertTrue(is_code([(word, 0)]))
            self.assertFalse(is_code([(word, 1)]))
        self.assertTrue(is_code([("call", 0, 0, 0, 0)]))
        self.assertFalse(is_code([("call", 0, 0, 0, 1)]))
        self.assertFalse(is_code([("end",)] * 599 + [("ends",)]))
        self.assertFalse(is_code([("ends",)] + [("end",)] * 599))

    def test_code_stays(self):
        code = [instruction for instruction, _ in FORMS]
        before = list(code)
        is_code(code)
        self.assertEqual(code, before)


if __name__ == "__main__":
    unittest.main()
