"""[9.2]: the lines of scripts."""

import unittest

from doppelganger.lines import read_command

# What stands in the places of each line: names, and numbers.
FORMS = {
    "show": "N", "fill": "NNN", "run": "N", "same": "NN", "differ": "NN", "witness": "NNN", "certify": "NN", "twin": "NN",
    "rule": "NN", "apply": "KNKN", "simplify": "NN", "code": "N", "attack": "NN",
}
NAMES = ["a", "b", "zz", "abcd", "hole", "run", "show", "let", "same", "code", "ok", "none", "bad"]
NO_NAMES = ["", "A", "abcde", "skip", "stop", "if", "new", "proc", "exit", "do", "com", "exp", "val", "a1", "1", "0", "a-b", "=", "a=", "a.",
            "while", "fault", "block"]
NUMBERS = ["0", "1", "9", "10", "42", "99", "100", "999"]
NO_NUMBERS = ["", "00", "01", "007", "1000", "0000", "12345", "-1", "+1", "1.", "1a", "a", "0x1", "1_0", "x", " "]


def words_of(form, at=0):
    """Words that fit a form, other ones for other numbers."""
    return [NAMES[(at + place) % len(NAMES)] if each == "N" else NUMBERS[(at + place) % len(NUMBERS)] for place, each in enumerate(form)]


def told(first, words, form):
    return (first, *[word if each == "N" else int(word) for word, each in zip(words, form)])


class LinesTest(unittest.TestCase):
    def assert_read(self, line, expected):
        with self.subTest(line):
            found = read_command(line)
            self.assertEqual(found, expected)
            if expected is not None:
                self.assertEqual([each.__class__ for each in found], [each.__class__ for each in expected])

    def test_each_line(self):
        for first, form in FORMS.items():
            for at in range(30):
                words = words_of(form, at)
                self.assert_read(" ".join([first] + words), told(first, words, form))
        self.assert_read("apply 0 a 12 b", ("apply", 0, "a", 12, "b"))
        self.assert_read("fill a a a", ("fill", "a", "a", "a"))

    def test_a_word_more_or_less(self):
        for first, form in FORMS.items():
            words = words_of(form)
            for size in range(len(words)):
                self.assert_read(" ".join([first] + words[:size]), None)
            for at in range(len(words) + 1):
                for more in ("a", "1", "=", ""):
                    longer = words[:at] + [more] + words[at:]
                    self.assert_read(" ".join([first] + longer), None)
                self.assert_read(" ".join((words[:at] + [first] + words[at:])), None if at else told(first, words, form))

    def test_spaces(self):
        for first, form in FORMS.items():
            words = [first] + words_of(form)
            line = " ".join(words)
            self.assert_read(" " + line, None)
            self.assert_read(line + " ", None)
            self.assert_read("  ".join(words), None)
            for at in range(1, len(words)):
                self.assert_read(" ".join(words[:at]) + "  " + " ".join(words[at:]), None)
                self.assert_read(" ".join(words[:at]) + " ".join(words[at:]), None)
                self.assert_read(" ".join(words[:at]) + "\t" + " ".join(words[at:]), None)
        for line in (" ", "  ", "   ", "\t"):
            self.assert_read(line, None)
        self.assert_read("", ())

    def test_names_and_numbers(self):
        for first, form in FORMS.items():
            words = words_of(form)
            for at, each in enumerate(form):
                good, bad = (NAMES, NO_NAMES) if each == "N" else (NUMBERS, NO_NUMBERS)
                for word in good:
                    changed = words[:at] + [word] + words[at + 1:]
                    self.assert_read(" ".join([first] + changed), told(first, changed, form))
                for word in bad:
                    self.assert_read(" ".join([first] + words[:at] + [word] + words[at + 1:]), None)

    def test_other_lines(self):
        for line in ["Show a", "SHOW a", "shows a", "sho a", "show", "a", "ok", "none", "unfold a", "plays a", "link a b", "history a b",
                     "size", "same", "= a", "show = a", "run a = b", "quit", "#", "-", "add a b", "simplify", "twin a", "0"]:
            self.assert_read(line, None)

    def test_texts(self):
        for first in ("let", "module"):
            for name in NAMES:
                for text in ["|- com : skip", "", " ", "   ", " x", "x ", " = ", "=", "a b  c ", "let a = b", "p : com { skip }", "!?"]:
                    self.assert_read(f"{first} {name} = {text}", (first, name, text))
            for name in NO_NAMES:
                self.assert_read(f"{first} {name} = |- com : skip", None)
            for line in [first, f"{first} ", f"{first} a", f"{first} a ", f"{first} a=", f"{first} a =", f"{first} a =x", f"{first} a= x",
                         f"{first} a = x"[1:], f" {first} a = x", f"{first}  a = x", f"{first} a  = x", f"{first} = x", f"{first} = ",
                         f"{first} a b = x", f"{first} a := x", f"{first} a == x", f"{first} a x", f"{first} a x = y", f"{first}a = x",
                         f"{first} 1 = x", f"{first} a  x", f"{first} a = x"[::-1]]:
                self.assert_read(line, None)


if __name__ == "__main__":
    unittest.main()
