"""[7.9]: linking modules with their clients."""

import unittest

from doppelganger.errors import BadKind, BadName, TooLarge
from doppelganger.linking import link
from doppelganger.modules import check_module, first_state, read_module
from doppelganger.names import check_piece
from doppelganger.operations import history, run_operation
from doppelganger.reader import read_piece
from doppelganger.runs import run
from doppelganger.terms import nodes
from doppelganger.writer import piece_text
from generate import modules
from helpers import ONE, SKIP, error_of, row_with_nodes, wrapped

UP = read_module("new n = 0; inc : com { n := n + 1 }; get : exp [ n ]")


def calling(module, calls):
    """A client that does these calls, and stops if one of their values is another one than expected."""
    steps = []
    for index, value in calls:
        name, kind, _ = module[1][index]
        call = ("call", name, ())
        steps.append(call if kind == "com" else ("if", ("equal", call, ("num", value)), SKIP, ("block", "k", ("stop",))))
    term = SKIP
    for step in steps:
        term = ("seq", term, step)
    decls = tuple(sorted((name, (), kind) for name, kind, _ in module[1]))
    return (decls, "com", term)


class LinkTest(unittest.TestCase):
    def assert_linked(self, module, client, expected):
        with self.subTest(module=module, client=client):
            piece = link(read_module(module), read_piece(client))
            self.assertEqual(piece_text(piece), expected)
            self.assertIsNone(check_piece(piece))

    def test_linked_pieces(self):
        up = "new n = 0; inc : com { n := n + 1 }; get : exp [ n ]"
        procs = "proc inc() : com { n := n + 1 } { proc get() : exp [ n ] {"
        for decls, client in [
            ("", "skip"), ("inc : com ", "inc; inc"), ("get : exp ", "new n = get { n := 1 }"),
            ("get : exp, inc : com ", "inc; while get { inc }"), ("get : exp, inc : com ", "skip"),
            ("", "proc get() : com { stop } { get }"), ("inc : com ", "new n = 2 { inc }"),
        ]:
            self.assert_linked(up, f"{decls}|- com : {client}", f"|- com : new n = 0 {{ {procs} {client} }} }} }}")
        self.assert_linked("b : com { skip }; a : exp [ 1 ]", "a : exp, b : com |- com : new x = a { b }",
                           "|- com : proc b() : com { skip } { proc a() : exp [ 1 ] { new x = a { b } } }")
        self.assert_linked("call : exp [ 2 ]", "call : exp |- com : new x = call { skip }",
                           "|- com : proc call() : exp [ 2 ] { new x = call { skip } }")
        self.assert_linked("new c = 2; new a = 1; new b = 0; p : com { a := b; b := c }", "p : com |- com : p; p",
                           "|- com : new c = 2 { new a = 1 { new b = 0 { proc p() : com { a := b; b := c } { p; p } } } }")

    def test_names_that_are_no_operations(self):
        for decls in ["n : com", "inc : com, n : exp", "a : exp, get : exp", "call : com", "incr : com", "a(com) : com", "hole : com"]:
            with self.subTest(decls):
                self.assertIs(error_of(link, UP, read_piece(f"{decls} |- com : skip")), BadName)

    def test_other_kinds(self):
        for client in ["|- exp : 1", "inc : com |- exp : do { inc } [ 1 ]", "inc : exp |- com : skip", "get : com |- com : skip",
                       "inc(com) : com |- com : skip", "get(val) : exp |- com : skip", "get(exp, exp) : exp |- com : skip",
                       "get : exp, inc : exp |- com : skip", "get : com, inc : com |- com : get; inc"]:
            with self.subTest(client):
                self.assertIs(error_of(link, UP, read_piece(client)), BadKind)

    def test_which_error_is_raised(self):
        large = (("inc", (), "com"),), "com", row_with_nodes_without_names(400)
        self.assertIs(error_of(link, UP, large), TooLarge)
        for client, error in [
            ((large[0], "exp", ONE), BadKind), (((("inc", (), "exp"),), "com", large[2]), BadKind),
            (((("inc", ("val",), "com"),), "com", large[2]), BadKind), (((("n", (), "com"),), "com", large[2]), BadName),
            (((("inc", (), "exp"), ("n", (), "com")), "com", large[2]), BadName), (((("n", (), "com"),), "exp", ONE), BadName),
            (((("inc", ("com",), "com"), ("zz", ("com",), "com")), "exp", ONE), BadName),
        ]:
            with self.subTest(client[0]):
                self.assertIsNone(check_piece(client))
                self.assertIs(error_of(link, UP, client), error)

    def test_nodes(self):
        # Around the client stand the variable, two procedures and their bodies.
        around = len(nodes(link(UP, ((), "com", SKIP))[2], "com")) - 1
        self.assertEqual(around, 9)
        for size in range(388, 397):
            client = ((), "com", row_with_nodes_without_names(size))
            self.assertIs(error_of(link, UP, client), TooLarge if size + around > 400 else None)

    def test_levels(self):
        for level in (25, 26, 27, 28, 29, 30):
            client = ((), "com", wrapped(lambda term: ("block", "k", term), level - 1, SKIP))
            self.assertIs(error_of(link, UP, client), TooLarge if level + 3 > 30 else None)
            alone = read_module("p : com { skip }")
            self.assertIs(error_of(link, alone, client), TooLarge if level + 1 > 30 else None)


def row_with_nodes_without_names(count):
    """A command with so many nodes that uses no name."""
    if count % 2:
        return row_with_nodes(count)
    return ("block", "k", row_with_nodes(count - 1))


class RunLinkedTest(unittest.TestCase):
    def test_an_example(self):
        client = read_piece("get : exp, inc : com |- com : inc; inc; if get == 2 { fault } { skip }")
        self.assertEqual(run(link(UP, client))[0], "faulted")
        client = read_piece("get : exp, inc : com |- com : inc; inc; inc; if get == 2 { fault } { skip }")
        self.assertEqual(run(link(UP, client))[0], "done")

    def test_beside_history(self):
        told = {}
        for module in modules(150, 4, 5):
            if error_of(check_module, module) is not None:
                continue
            calls = [(5 * at // 3) % len(module[1]) for at in range(5)]
            if error_of(history, module, calls) is not None:
                continue
            found = history(module, calls)
            for shift in range(3):
                # All values as they are, or the last one of an expression changed.
                values = [value for _, value in found]
                values[-1] = (values[-1] + shift) % 3
                client = calling(module, list(zip(calls, values)))
                self.assertIsNone(check_piece(client))
                if error_of(link, module, client) is not None or error_of(run, link(module, client)) is not None:
                    continue
                result = found[-1][0]
                if result == "done" and shift and module[1][calls[len(found) - 1]][1] == "exp":
                    result = "never"
                self.assertEqual(run(link(module, client))[0], result)
                told[result] = told.get(result, 0) + 1
        self.assertGreater(min(told["done"], told["never"], told["faulted"]), 20)

    def test_state_that_a_client_leaves(self):
        module = read_module("new a = 1; new b = 2; swap : com { new c = a { a := b; b := c } }; get : exp [ a ]")
        state = first_state(module)
        for times in range(4):
            client = ("seq", SKIP, SKIP)
            for _ in range(times):
                client = ("seq", client, ("call", "swap", ()))
            client = ("seq", client, ("if", ("equal", ("call", "get", ()), ("num", state[0])), ("fault",), ("stop",)))
            piece = link(module, ((("get", (), "exp"), ("swap", (), "com")), "com", client))
            self.assertEqual(run(piece)[0], "faulted")
            state = run_operation(module, state, 0)[2]


if __name__ == "__main__":
    unittest.main()
