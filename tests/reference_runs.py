"""The rules of [2.1] to [2.5], written down once more by recursion, which must not be deep."""

import sys
import threading


class Exit(Exception):
    def __init__(self, block):
        super().__init__()
        self.block = block


class End(Exception):
    def __init__(self, outcome):
        super().__init__()
        self.outcome = outcome


class Cell:
    def __init__(self, value):
        self.value = value


OPERATORS = {
    "add": lambda a, b: (a + b) % 3,
    "sub": lambda a, b: (a - b) % 3,
    "mul": lambda a, b: a * b % 3,
    "equal": lambda a, b: int(a == b),
    "less": lambda a, b: int(a < b),
}


class Reference:
    """Runs one program; names are bound to cells, to block runs, and to functions of arguments."""

    def __init__(self, limit, watched):
        self.limit = limit
        self.watched = watched
        self.steps = 0
        self.cells = []

    def step(self):
        if self.steps == self.limit:
            raise End("running")
        self.steps += 1

    def with_cells(self, values, inside):
        made = [Cell(value) for value in values]
        before = len(self.cells)
        self.cells += made
        try:
            return inside(made)
        finally:
            del self.cells[before:]

    def run(self, term, scope):
        self.step()
        return getattr(self, f"run_{term[0]}" if term[0] not in OPERATORS else "run_operator")(term, scope)

    def run_skip(self, term, scope):
        return 0

    def run_num(self, term, scope):
        return term[1]

    def run_read(self, term, scope):
        return scope[term[1]].value

    def run_set(self, term, scope):
        scope[term[1]].value = self.run(term[2], scope)
        return 0

    def run_seq(self, term, scope):
        self.run(term[1], scope)
        return self.run(term[2], scope)

    run_do = run_seq

    def run_operator(self, term, scope):
        left = self.run(term[1], scope)
        return OPERATORS[term[0]](left, self.run(term[2], scope))

    def run_if(self, term, scope):
        return self.run(term[3] if self.run(term[1], scope) == 0 else term[2], scope)

    def run_while(self, term, scope):
        seen = set()
        while True:
            now = tuple(cell.value for cell in self.cells)
            if self.watched and now in seen:
                raise End("never")
            seen.add(now)
            if self.run(term[1], scope) == 0:
                return 0
            self.run(term[2], scope)

    def run_new(self, term, scope):
        value = self.run(term[2], scope)
        return self.with_cells([value], lambda made: self.run(term[3], {**scope, term[1]: made[0]}))

    def run_stop(self, term, scope):
        raise End("never")

    def run_fault(self, term, scope):
        raise End("faulted")

    def run_block(self, term, scope):
        block = object()
        try:
            self.run(term[2], {**scope, term[1]: block})
        except Exit as left:
            if left.block is not block:
                raise
        return 0

    def run_exit(self, term, scope):
        raise Exit(scope[term[1]])

    def run_proc(self, term, scope):
        _, name, params, _, body, block = term

        def call(args, around):
            values = [self.run(arg, around) for (_, of_type), (_, arg) in zip(params, args) if of_type == "val"]

            def inside(made):
                inner, left = dict(scope), list(made)
                for (param, of_type), (_, arg) in zip(params, args):
                    inner[param] = left.pop(0) if of_type == "val" else lambda _, __, arg=arg: self.run(arg, around)
                return self.run(body, inner)

            return self.with_cells(values, inside)

        return self.run(block, {**scope, name: call})

    def run_call(self, term, scope):
        return scope[term[1]](term[2], scope)

    def result(self, term):
        try:
            return ("done", self.run(term, {}), self.steps)
        except End as end:
            if end.outcome == "faulted":
                return ("faulted", 0, self.steps)
            if end.outcome == "never" and self.watched:
                return ("never", 0, 0)
            return ("running", 0, self.limit)


def result_of(piece, limit=20000, watched=True):
    """The result of a program, or ("running", 0, limit) if it is not there behind so many steps."""
    return Reference(limit, watched).result(piece[2])


def deeply(function):
    """Calls a function where recursion may be deep, and returns what it returns."""
    found = []
    before = sys.getrecursionlimit()
    threading.stack_size(512 * 1024 * 1024)
    thread = threading.Thread(target=lambda: found.append(function()))
    try:
        sys.setrecursionlimit(200000)
        thread.start()
        thread.join()
    finally:
        sys.setrecursionlimit(before)
        threading.stack_size(0)
    return found[0]
