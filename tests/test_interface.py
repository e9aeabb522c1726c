"""The interface of the modules that there are: names, arguments, constants and all examples."""

import ast
import importlib
import inspect
import unittest
from pathlib import Path

from doppelganger.errors import DoppelError

ROOT = Path(__file__).resolve().parent.parent

CLASSES = {
    "errors": ["DoppelError", "NotAllowed", "BadForm", "BadName", "BadKind", "TooLarge", "Missing", "Same", "Apart"],
    "book": ["Book"],
}
FUNCTIONS = {
    "terms": {"is_name": ["text"], "kids": ["term", "kind"], "nodes": ["term", "kind"],
              "row": ["first", "second"], "is_shaped": ["piece"]},
    "names": {"check_piece": ["piece"], "used_names": ["piece"]},
    "reader": {"read_piece": ["text"]},
    "writer": {"piece_text": ["piece"]},
    "contexts": {"fill": ["context", "piece"]},
    "runs": {"operate": ["kind", "first", "second"], "run": ["piece"], "run_for": ["piece", "limit"]},
    "automata": {"check_machine": ["machine"], "accepts": ["machine", "word"], "least_machine": ["machine"],
                 "count_words": ["machine", "length"]},
    "differ": {"difference": ["first", "second"]},
    "relate": {"relation": ["first", "second"], "check_relation": ["first", "second", "pairs"]},
    "combine": {"both": ["first", "second"], "either": ["first", "second"], "hide": ["machine", "hidden"]},
    "moves": {"letters": ["decls", "kind"], "is_other": ["move"], "move_text": ["decls", "move"],
              "read_play": ["decls", "kind", "text"]},
    "unfold": {"unfolded_size": ["piece"], "is_beyond": ["piece"]},
    "situations": {"reply": ["piece", "moves"], "count_situations": ["piece"]},
    "plays": {"plays": ["piece"], "is_play": ["piece", "moves"]},
    "same": {"same": ["first", "second"], "difference": ["first", "second"]},
    "witness": {"is_possible": ["decls", "kind", "play"], "context_of": ["decls", "kind", "play"],
                "witness": ["first", "second"]},
    "certify": {"certify": ["first", "second"], "check_certificate": ["first", "second", "pairs"]},
    "matching": {"count_nodes": ["term"], "term_at": ["term", "number"], "replace_at": ["term", "number", "other"],
                 "match": ["side", "other", "term"], "fill_unknowns": ["side", "found"]},
    "modules": {"check_module": ["module"], "read_module": ["text"], "module_text": ["module"], "piece_of": ["module"],
                "first_state": ["module"]},
    "operations": {"run_operation": ["module", "state", "index"], "history": ["module", "calls"]},
    "linking": {"link": ["module", "client"]},
    "relations": {"same_modules": ["first", "second"], "relation": ["first", "second"],
                  "is_relation": ["first", "second", "pairs"]},
    "instructions": {"is_code": ["code"]},
    "compiler": {"compile_piece": ["piece"]},
    "cpu": {"run_code": ["code", "around", "entry"]},
    "around": {"around_of": ["decls", "kind", "play"]},
    "lines": {"read_command": ["line"]},
    "desk": {"run_script": ["script"]},
}
METHODS = {
    "book": {"Book": {"__init__": [], "add": ["left", "right"], "size": [], "rule": ["index"],
                      "apply_rule": ["index", "back", "piece", "number"], "simplify": ["piece"]}},
}
CONSTANTS = {
    "terms": {"WIDTH": 3, "MAX_NODES": 400, "MAX_LEVEL": 30, "MAX_DECLS": 3, "MAX_ARGS": 2, "MAX_NAME": 4},
    "reader": {"MAX_TEXT": 6000},
    "runs": {"WIDTH": 3, "MAX_STEPS": 20000},
    "automata": {"MAX_SIGNS": 200, "MAX_MACHINE": 400, "MAX_PAIRS": 4000, "MAX_COUNT": 100},
    "moves": {"QUESTION": ("", 0, False, 0), "FAULT": ("!",), "MAX_PLAY": 40},
    "unfold": {"MAX_UNFOLDED": 400},
    "situations": {"MAX_BEATS": 2000, "MAX_SITUATIONS": 400},
    "witness": {"MAX_SHOWN": 12},
    "book": {"MAX_RULES": 12},
    "modules": {"MAX_HIDDEN": 3, "MAX_OPERATIONS": 2, "MAX_MODULE_TEXT": 5900},
    "instructions": {"MAX_CODE": 600, "MAX_STACK": 40},
    "cpu": {"MAX_CELLS": 4, "MAX_INNER": 2000, "MAX_STEPS": 20000, "MAX_NEST": 24},
}
# How many lines the examples of each module have.
EXAMPLES = {
    "terms": 4, "reader": 6, "writer": 3, "contexts": 6, "runs": 16, "automata": 7, "differ": 3, "relate": 5,
    "combine": 5, "moves": 3, "situations": 5, "plays": 11, "same": 9, "witness": 11, "certify": 7,
    "modules": 4, "operations": 5, "linking": 6, "relations": 5,
}


def module_of(name):
    return importlib.import_module(f"doppelganger.{name}")


def tree_of(name):
    return ast.parse((ROOT / "doppelganger" / f"{name}.py").read_text(encoding="utf-8"))


class InterfaceTest(unittest.TestCase):
    def test_classes_are_defined_in_their_files(self):
        for name, classes in CLASSES.items():
            defined = [node.name for node in tree_of(name).body if isinstance(node, ast.ClassDef)]
            self.assertEqual([each for each in classes if each not in defined], [])

    def test_functions_are_defined_in_their_files(self):
        for name, functions in FUNCTIONS.items():
            defined = [node.name for node in tree_of(name).body if isinstance(node, ast.FunctionDef)]
            self.assertEqual([each for each in functions if each not in defined], [])

    def test_functions_have_their_arguments(self):
        for name, functions in FUNCTIONS.items():
            for function, args in functions.items():
                with self.subTest(function):
                    found = inspect.signature(getattr(module_of(name), function)).parameters
                    self.assertEqual(list(found), args)

    def test_methods_stand_in_their_classes(self):
        for name, classes in METHODS.items():
            for node in tree_of(name).body:
                if isinstance(node, ast.ClassDef) and node.name in classes:
                    found = {each.name: [arg.arg for arg in each.args.args][1:]
                             for each in node.body if isinstance(each, ast.FunctionDef)}
                    expected = classes[node.name]
                    self.assertEqual({method: found[method] for method in expected}, expected)

    def test_constants(self):
        for name, constants in CONSTANTS.items():
            for constant, value in constants.items():
                with self.subTest(constant):
                    self.assertEqual(getattr(module_of(name), constant), value)
                    self.assertIs(getattr(module_of(name), constant).__class__, value.__class__)


def examples():
    """The examples of the document, as they stand in examples.txt: pairs of a module and the lines of one."""
    text = (Path(__file__).resolve().parent / "examples.txt").read_text(encoding="utf-8")
    for example in text.strip().split("\n\n"):
        heading, *lines = example.split("\n")
        yield heading.removeprefix("# "), lines


class ExamplesTest(unittest.TestCase):
    def run_example(self, lines):
        """Runs the lines of one example; behind a line stands what it shows, or the error that it raises."""
        names = {}
        for line, told in zip(lines, lines[1:] + [""]):
            if line.startswith(">>> "):
                expected = "" if told.startswith(">>> ") else told
                with self.subTest(line):
                    self.assertEqual(self.shown(line[4:], names), expected)

    def shown(self, line, names):
        try:
            if isinstance(ast.parse(line).body[0], ast.Expr):
                value = eval(line, names)  # pylint: disable=eval-used
                return "" if value is None else repr(value)
            exec(line, names)  # pylint: disable=exec-used
            return ""
        except DoppelError as error:
            return f"raises {error.__class__.__name__}"

    def test_examples(self):
        found = {}
        for module, lines in examples():
            found[module] = found.get(module, 0) + sum(line.startswith(">>> ") for line in lines)
            self.run_example(lines)
        self.assertEqual(found, EXAMPLES)


if __name__ == "__main__":
    unittest.main()
