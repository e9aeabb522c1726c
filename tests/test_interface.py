"""The interface of the modules that there are: names, arguments, constants and all examples."""

import ast
import importlib
import inspect
import unittest
from pathlib import Path

from doppelganger.errors import BadForm, BadName
from doppelganger.reader import read_piece
from doppelganger.terms import kids, row
from doppelganger.writer import piece_text

ROOT = Path(__file__).resolve().parent.parent

CLASSES = {
    "errors": ["DoppelError", "NotAllowed", "BadForm", "BadName", "BadKind", "TooLarge", "Missing", "Same", "Apart"],
}
FUNCTIONS = {
    "terms": {"is_name": ["text"], "kids": ["term", "kind"], "nodes": ["term", "kind"],
              "row": ["first", "second"], "is_shaped": ["piece"]},
    "names": {"check_piece": ["piece"], "used_names": ["piece"]},
    "reader": {"read_piece": ["text"]},
    "writer": {"piece_text": ["piece"]},
}
CONSTANTS = {
    "terms": {"WIDTH": 3, "MAX_NODES": 400, "MAX_LEVEL": 30, "MAX_DECLS": 3, "MAX_ARGS": 2, "MAX_NAME": 4},
    "reader": {"MAX_TEXT": 6000},
}


def module_of(name):
    return importlib.import_module(f"doppelganger.{name}")


def tree_of(name):
    return ast.parse((ROOT / "doppelganger" / f"{name}.py").read_text(encoding="utf-8"))


class InterfaceTest(unittest.TestCase):
    def test_classes_are_defined_in_their_files(self):
        for name, classes in CLASSES.items():
            defined = [node.name for node in tree_of(name).body if isinstance(node, ast.ClassDef)]
            self.assertEqual([each for each in classes if each not in defined], [])

    def test_functions_are_defined_in_their_files(self):
        for name, functions in FUNCTIONS.items():
            defined = [node.name for node in tree_of(name).body if isinstance(node, ast.FunctionDef)]
            self.assertEqual([each for each in functions if each not in defined], [])

    def test_functions_have_their_arguments(self):
        for name, functions in FUNCTIONS.items():
            for function, args in functions.items():
                with self.subTest(function):
                    found = inspect.signature(getattr(module_of(name), function)).parameters
                    self.assertEqual(list(found), args)

    def test_constants(self):
        for name, constants in CONSTANTS.items():
            for constant, value in constants.items():
                with self.subTest(constant):
                    self.assertEqual(getattr(module_of(name), constant), value)
                    self.assertIs(getattr(module_of(name), constant).__class__, int)


class ExamplesTest(unittest.TestCase):
    """The examples of the document, as they stand there."""

    def test_row(self):
        self.assertEqual(row(("skip",), ("seq", ("stop",), ("skip",))), ("seq", ("seq", ("skip",), ("stop",)), ("skip",)))

    def test_kids(self):
        self.assertEqual(kids(("new", "x", ("num", 1), ("skip",)), "com"), [("exp", ("num", 1)), ("com", ("skip",))])

    def test_read_piece(self):
        self.assertEqual(
            read_piece("p : com |- com : p; skip"),
            ((("p", (), "com"),), "com", ("seq", ("call", "p", ()), ("skip",))),
        )

    def test_read_piece_raises_bad_name(self):
        with self.assertRaises(BadName):
            read_piece("|- exp : new x = 1 [ x + y ]")

    def test_read_piece_raises_bad_form(self):
        with self.assertRaises(BadForm):
            read_piece("|- exp : 3")

    def test_piece_text(self):
        self.assertEqual(
            piece_text(read_piece("b : exp, a(com,exp):com|-com:a({stop},(b-(b-1))==(1))")),
            "a(com, exp) : com, b : exp |- com : a({ stop }, b - (b - 1) == 1)",
        )


if __name__ == "__main__":
    unittest.main()
