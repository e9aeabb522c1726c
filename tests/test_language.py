"""The rules of the language subset that can be seen in the files of the package."""

import ast
import builtins
import functools
import re
import unittest
import warnings
from pathlib import Path

PACKAGE = Path(__file__).resolve().parent.parent / "doppelganger"
FILES = sorted(path for path in PACKAGE.rglob("*") if "__pycache__" not in path.parts and path.is_file())

LIBRARY = {
    "heapq": {"heappush", "heappop", "heapify", "heapreplace", "heappushpop"},
    "math": {"gcd", "lcm", "isqrt", "comb", "perm", "factorial"},
    "itertools": {"product", "combinations", "permutations", "chain", "accumulate", "pairwise", "islice", "zip_longest"},
    "collections": {"defaultdict"},
    "__future__": {"annotations"},
}
BUILTINS = set(
    "len range enumerate zip min max sum abs sorted reversed int str bool list tuple dict set isinstance ord repr any all"
    " divmod pow getattr hasattr setattr map iter next super property staticmethod classmethod Exception ValueError"
    " TypeError KeyError IndexError LookupError ZeroDivisionError ArithmeticError OverflowError RuntimeError"
    " NotImplementedError AttributeError StopIteration NotImplemented".split()
)
PYTHONS = {name for name in dir(builtins) if not name.startswith("__")}
METHODS = set(
    "append clear copy count endswith extend find get index insert isalnum isalpha isdigit islower isspace isupper items"
    " join keys ljust lower lstrip partition pop remove replace reverse rfind rjust rpartition rsplit rstrip setdefault"
    " split splitlines startswith strip update upper values zfill bit_length title capitalize swapcase casefold center"
    " expandtabs removeprefix removesuffix rindex isascii isdecimal isnumeric istitle isidentifier isprintable translate"
    " add discard sort format".split()
)
NOWHERE = set("register mro elements open input law version_info with_traceback add_note".split())
NO_NAMES = NOWHERE | set(
    "attrgetter breakpoint builtins compile copyright credits delattr dir eval exec exit gc globals help id importlib"
    " license locals methodcaller os quit type vars sys".split()
)
NO_WORDS = set(
    "typing typing_extensions enum Enum IntEnum StrEnum Flag IntFlag Generic Protocol ABC ABCMeta namedtuple NamedTuple"
    " TypedDict TYPE_CHECKING abstractmethod _wall _WallAttr".split()
)
# What attributes and methods may be called, although strings, numbers, lists, dicts, sets or bytes have it, too.
ATTRIBUTES = set("count index title find get join lower upper split strip copy add".split())
OWN_METHODS = set(
    "append clear copy count endswith extend find get index insert isalnum isalpha isdigit islower isspace isupper items"
    " join keys ljust lower lstrip partition pop remove replace reverse rfind rjust rpartition rsplit rstrip setdefault"
    " split splitlines startswith strip update upper values zfill add discard".split()
)
OF_BUILTINS = {name for each in (str, int, list, dict, set, bytes, tuple) for name in dir(each) if not name.startswith("__")}
STATEMENTS = (
    ast.FunctionDef, ast.ClassDef, ast.Return, ast.Delete, ast.Assign, ast.AugAssign, ast.AnnAssign, ast.For, ast.While,
    ast.If, ast.With, ast.Raise, ast.Try, ast.Assert, ast.ImportFrom, ast.Nonlocal, ast.Expr, ast.Pass, ast.Break,
    ast.Continue, ast.Match,
)


def text_of(path):
    return path.read_text(encoding="utf-8")


@functools.lru_cache(maxsize=None)
def tree_of(path):
    with warnings.catch_warnings():
        warnings.simplefilter("error")
        return ast.parse(text_of(path), str(path))


@functools.lru_cache(maxsize=None)
def nodes_of(path, *kinds):
    return [node for node in ast.walk(tree_of(path)) if isinstance(node, kinds)]


def bound_names(tree):
    """All names that a file binds anywhere, with their lines."""
    for node in ast.walk(tree):
        if isinstance(node, ast.Name) and not isinstance(node.ctx, ast.Load):
            yield node.id, node.lineno
        elif isinstance(node, ast.arg):
            yield node.arg, node.lineno
        elif isinstance(node, (ast.FunctionDef, ast.ClassDef)):
            yield node.name, node.lineno


def for_each_file(test):
    """The test of one file as a test of all of them."""
    def test_all(self):
        for path in FILES:
            with self.subTest(path.name):
                test(self, path)
    return test_all


class LanguageTest(unittest.TestCase):
    @for_each_file
    def test_there_are_plain_files_only(self, path):
        self.assertIn(PACKAGE / "__init__.py", FILES)
        self.assertRegex(path.name, r"^(__init__|__main__|[a-z][a-z0-9_]*)\.py$")
        self.assertIsNone(re.match(r"law_|tests?[._]|testing\.|site\.|conftest\.", path.name))
        self.assertNotIn(path.stem, PYTHONS)

    @for_each_file
    def test_sizes_and_characters(self, path):
        lines = text_of(path).split("\n")
        self.assertLessEqual(len(lines) - 1, 399)
        self.assertLessEqual(max(map(len, lines)), 120)
        self.assertEqual([line for line in lines if re.search("[^ -~]", line)], [])
        for node in nodes_of(path, ast.FunctionDef):
            self.assertLessEqual(node.end_lineno - node.lineno + 1, 40, node.name)

    @for_each_file
    def test_imports(self, path):
        for node in nodes_of(path, ast.Import, ast.ImportFrom):
            self.assertIsInstance(node, ast.ImportFrom)
            self.assertEqual(node.level, 0)
            names = {each.name for each in node.names}
            self.assertNotIn("*", names)
            self.assertEqual([each.asname for each in node.names if each.asname], [])
            if node.module.startswith("doppelganger."):
                source = PACKAGE.joinpath(*node.module.split(".")[1:]).with_suffix(".py")
                self.assertEqual(names - self.defined_in(source), set())
            else:
                self.assertLessEqual(names, LIBRARY.get(node.module, set()))

    def defined_in(self, path):
        found = set()
        for node in tree_of(path).body:
            if isinstance(node, (ast.FunctionDef, ast.ClassDef)):
                found.add(node.name)
            elif isinstance(node, ast.Assign):
                found.update(target.id for target in node.targets)
        return found

    def test_imports_make_no_circle(self):
        needs = {path.stem: {node.module.split(".")[1] for node in nodes_of(path, ast.ImportFrom)
                             if node.module.startswith("doppelganger.")} for path in FILES}
        while needs:
            free = [name for name in needs if not needs[name] & set(needs)]
            self.assertNotEqual(free, [], needs)
            for name in free:
                del needs[name]

    @for_each_file
    def test_module_level(self, path):
        allowed = (ast.Expr, ast.ImportFrom, ast.FunctionDef, ast.ClassDef, ast.Assign)
        names = []
        for at, node in enumerate(tree_of(path).body):
            self.assertIsInstance(node, allowed)
            if isinstance(node, ast.Expr):
                self.assertEqual(at, 0)
            elif isinstance(node, ast.Assign):
                self.assertEqual([target.__class__ for target in node.targets], [ast.Name])
                names.append(node.targets[0].id)
                inner = [each for each in ast.walk(node.value) if isinstance(each, (ast.List, ast.Dict))]
                self.assertLessEqual(len(inner), int(isinstance(node.value, (ast.List, ast.Dict))))
                self.assertEqual([each for each in ast.walk(node.value) if isinstance(each, (ast.Call, ast.Set))], [])
            elif isinstance(node, ast.ImportFrom):
                names.extend(each.name for each in node.names)
            else:
                names.append(node.name)
        self.assertEqual(sorted(set(names)), sorted(names))

    @for_each_file
    def test_statements(self, path):
        for node in nodes_of(path, ast.stmt):
            self.assertIsInstance(node, STATEMENTS)
        for node in nodes_of(path, ast.ExceptHandler):
            self.assertIsNotNone(node.type)

    @for_each_file
    def test_expressions(self, path):
        self.assertEqual(nodes_of(path, ast.Div, ast.Await, ast.MatMult), [])
        for node in nodes_of(path, ast.Constant):
            self.assertIn(node.value.__class__, (int, str, bytes, bool, None.__class__))
            if isinstance(node.value, str):
                self.assertNotIn(chr(37), node.value)
                self.assertIsNone(re.search(r"\.__?$|^__.*__$", node.value))
        for node in nodes_of(path, ast.FunctionDef, ast.ClassDef):
            self.assertLessEqual({ast.unparse(each) for each in node.decorator_list},
                                 {"property", "staticmethod", "classmethod"})

    @for_each_file
    def test_names(self, path):
        tree = tree_of(path)
        imported = {each.name for node in ast.walk(tree) if isinstance(node, ast.ImportFrom) for each in node.names}
        classes = [node.name for node in ast.walk(tree) if isinstance(node, ast.ClassDef)]
        methods = {node for parent in ast.walk(tree) if isinstance(parent, ast.ClassDef) for node in parent.body}
        locations = {(node.name, node.lineno) for node in methods if isinstance(node, ast.FunctionDef)}
        for name, line in bound_names(tree):
            with self.subTest(name=name, line=line):
                self.assertNotIn(name, imported)
                self.assertRegex(name, r"^(_|_?[A-Za-z][A-Za-z0-9_]*|__[a-z]+__)$")
                self.assertNotIn(name, NO_NAMES)
                if (name, line) not in locations:
                    self.assertNotIn(name, PYTHONS)
        self.assertEqual(sorted(name for name, _ in bound_names(tree) if name in classes), sorted(set(classes)))

    @for_each_file
    def test_words_that_are_not_used(self, path):
        for node in nodes_of(path, ast.Name, ast.Attribute, ast.keyword):
            name = getattr(node, "id", None) or getattr(node, "attr", None) or getattr(node, "arg", None)
            self.assertNotIn(name, NOWHERE)
        self.assertEqual(set(re.findall(r"\w+", text_of(path))) & NO_WORDS, set())
        self.assertIsNone(re.search("dataclass|overload|contextmanager|_wall|_WallAttr", text_of(path)))

    @for_each_file
    def test_builtins(self, path):
        for node in nodes_of(path, ast.Name):
            if node.id in PYTHONS:
                self.assertIn(node.id, BUILTINS)

    @for_each_file
    def test_own_attributes_and_methods(self, path):
        for node in nodes_of(path, ast.Attribute):
            if not isinstance(node.ctx, ast.Load):
                self.assertNotIn(node.attr, OF_BUILTINS - ATTRIBUTES)
                self.assertNotIn(node.attr, ("format", "args", "sort", "mro"))
        for each in nodes_of(path, ast.ClassDef):
            assigned = {node.attr for node in ast.walk(each) if isinstance(node, ast.Attribute) and not isinstance(node.ctx, ast.Load)
                        and isinstance(node.value, ast.Name) and node.value.id == "self"}
            methods = [node.name for node in each.body if isinstance(node, ast.FunctionDef)]
            self.assertEqual(assigned & set(methods), set())
            self.assertEqual(len(methods), len(set(methods)))
            self.assertEqual({name for name in methods if name in OF_BUILTINS - OWN_METHODS}, set())

    @for_each_file
    def test_attributes_that_are_read_are_assigned(self, path):
        assigned = {node.attr for other in FILES for node in nodes_of(other, ast.Attribute) if not isinstance(node.ctx, ast.Load)}
        methods = {node.name for other in FILES for each in nodes_of(other, ast.ClassDef) for node in each.body
                   if isinstance(node, ast.FunctionDef)}
        for node in nodes_of(path, ast.Attribute):
            self.assertIn(node.attr, assigned | methods | METHODS)

    @for_each_file
    def test_methods(self, path):
        own = {node.name for path in FILES for each in nodes_of(path, ast.ClassDef) for node in each.body
               if isinstance(node, ast.FunctionDef)}
        for node in nodes_of(path, ast.Call):
            if isinstance(node.func, ast.Attribute):
                self.assertIn(node.func.attr, METHODS | own)


if __name__ == "__main__":
    unittest.main()
