"""Pieces that are made from a seed: the same ones each time."""

import random

NAMES = ["a", "b", "f", "k", "x", "hole"]
SIGNATURE_TYPES = ["com", "exp", "val"]


class Maker:
    """Makes terms; with `sound` each name is used as it is bound, otherwise names are taken at random."""

    def __init__(self, seed, sound):
        self.random = random.Random(seed)
        self.sound = sound

    def types(self):
        return tuple(self.random.choice(SIGNATURE_TYPES) for _ in range(self.random.choice([0, 0, 1, 2])))

    def piece(self, size):
        count = self.random.choice([0, 1, 2, 3])
        names = sorted(self.random.sample(NAMES, count))
        decls = tuple((name, self.types(), self.random.choice(["com", "exp"])) for name in names)
        kind = self.random.choice(["com", "exp"])
        scope = {name: (types, result) for name, types, result in decls}
        return (decls, kind, self.term(kind, size, scope))

    def term(self, kind, size, scope):
        makers = [self.plain, self.plain, self.use, self.use, self.use]
        if size > 0:
            makers += [self.form] * 8
        return self.random.choice(makers)(kind, size, scope)

    def plain(self, kind, _size, _scope):
        own = {"com": [("skip",)], "exp": [("num", 0), ("num", 1), ("num", 2)]}[kind]
        return self.random.choice(own * 3 + [("stop",), ("fault",)])

    def use(self, kind, size, scope):
        word = self.random.choice(["read", "call", "exit"] if kind == "exp" else ["set", "call", "exit"])
        if self.sound:
            fitting = [name for name in scope if self.fits(word, kind, scope[name])]
            if not fitting:
                return self.plain(kind, size, scope)
            name = self.random.choice(fitting)
        else:
            name = self.random.choice(NAMES)
        if word == "set":
            return (word, name, self.term("exp", size // 2, scope))
        if word == "call":
            return (word, name, self.args(scope.get(name), size, scope))
        return (word, name)

    def fits(self, word, kind, binding):
        if word == "call":
            return isinstance(binding, tuple) and binding[1] == kind
        return binding == ("label" if word == "exit" else "variable")

    def args(self, binding, size, scope):
        if isinstance(binding, tuple) and (self.sound or self.random.random() < 0.8):
            kinds = ["com" if each == "com" else "exp" for each in binding[0]]
        else:
            kinds = [self.random.choice(["com", "exp"]) for _ in self.types()]
        return tuple((kind, self.term(kind, size // 2, scope)) for kind in kinds)

    def form(self, kind, size, scope):
        forms = [self.condition, self.variable, self.procedure]
        forms += [self.row, self.row, self.loop, self.block] if kind == "com" else [self.operation] * 5 + [self.do]
        return self.random.choice(forms)(kind, size - 1, scope)

    def row(self, _kind, size, scope):
        whole = self.step(size, scope)
        for _ in range(self.random.choice([1, 1, 2, 3])):
            whole = ("seq", whole, self.step(size // 2, scope))
        return whole

    def step(self, size, scope):
        step = ("seq",)
        while step[0] == "seq":
            step = self.term("com", size, scope)
        return step

    def loop(self, _kind, size, scope):
        return ("while", self.term("exp", size // 2, scope), self.term("com", size, scope))

    def block(self, _kind, size, scope):
        name = self.random.choice(NAMES)
        return ("block", name, self.term("com", size, {**scope, name: "label"}))

    def operation(self, _kind, size, scope):
        word = self.random.choice(["add", "sub", "mul", "equal", "less"])
        return (word, self.term("exp", size, scope), self.term("exp", size, scope))

    def do(self, _kind, size, scope):
        return ("do", self.term("com", size // 2, scope), self.term("exp", size, scope))

    def condition(self, kind, size, scope):
        parts = [self.term(each, size // 2, scope) for each in ("exp", kind, kind)]
        return ("if", *parts)

    def variable(self, kind, size, scope):
        name = self.random.choice(NAMES)
        value = self.term("exp", size // 2, scope)
        return ("new", name, value, self.term(kind, size, {**scope, name: "variable"}))

    def procedure(self, kind, size, scope):
        name, result = self.random.choice(NAMES), self.random.choice(["com", "exp"])
        types = self.types()
        params = tuple(zip(self.random.sample(NAMES, len(types)), types))
        bound = {param: "variable" if each == "val" else ((), each) for param, each in params}
        body = self.term(result, size // 2, {**scope, **bound})
        return ("proc", name, params, result, body, self.term(kind, size, {**scope, name: (types, result)}))


def pieces(count, size, sound=True, seed=0):
    """So many pieces; sound ones may still be too large."""
    return [Maker(f"{seed} {size} {at}", sound).piece(size) for at in range(count)]


def programs(count, size, seed=0):
    """So many sound pieces without declarations; they may still be too large."""
    made = []
    for at in range(count):
        maker = Maker(f"program {seed} {size} {at}", True)
        kind = maker.random.choice(["com", "exp"])
        made.append(((), kind, maker.term(kind, size, {})))
    return made


class Lively(Maker):
    """Makes terms that seldom end at once: few stops and faults, many variables, calls and loops."""

    def term(self, kind, size, scope):
        if size > 0 and self.random.random() < 0.85:
            return self.form(kind, size, scope)
        return self.random.choice([self.plain, self.use, self.use])(kind, size, scope)

    def plain(self, kind, _size, scope):
        if self.random.random() < 0.02:
            return self.random.choice([("stop",), ("fault",)])
        variables = [name for name in scope if scope[name] == "variable"]
        if variables and self.random.random() < 0.7:
            name = self.random.choice(variables)
            if kind == "exp":
                return ("read", name)
            word = self.random.choice(["add", "sub", "mul", "less"])
            return ("set", name, (word, ("read", name), ("num", self.random.randrange(3))))
        return ("skip",) if kind == "com" else ("num", self.random.randrange(3))

    def use(self, kind, size, scope):
        term = super().use(kind, size, scope)
        # Most exits depend on something, so that what follows them is run, too.
        if term[0] == "exit" and self.random.random() < 0.8:
            return ("if", self.plain("exp", size, scope), term, self.plain(kind, size, scope))
        return term

    def form(self, kind, size, scope):
        forms = [self.condition, self.variable, self.procedure, self.procedure]
        if kind == "com":
            forms += [self.row, self.row, self.row, self.loop, self.loop, self.block]
        else:
            forms += [self.operation, self.operation, self.do, self.do]
        return self.random.choice(forms)(kind, size - 1, scope)


def lively_programs(count, size, seed=0):
    """So many sound pieces without declarations of which many run for a while; they may be too large."""
    made = []
    for at in range(count):
        maker = Lively(f"lively {seed} {size} {at}", True)
        kind = maker.random.choice(["com", "exp"])
        made.append(((), kind, maker.term(kind, size, {})))
    return made


def lively_pieces(count, size, seed=0):
    """So many sound pieces with declarations of which many run for a while; they may be too large."""
    return [Lively(f"lively {seed} {size} {at}", True).piece(size) for at in range(count)]


def contexts(count, size, seed=0):
    """So many sound pieces with a hole, beside other declarations."""
    made = []
    for at in range(count):
        maker = Maker(f"context {seed} {size} {at}", True)
        decls = tuple(sorted(
            [("hole", (), maker.random.choice(["com", "exp"]))]
            + [(name, maker.types(), maker.random.choice(["com", "exp"]))
               for name in maker.random.sample(["a", "b", "f"], maker.random.choice([0, 1, 2]))]
        ))
        kind = maker.random.choice(["com", "exp"])
        scope = {name: (types, result) for name, types, result in decls}
        made.append((decls, kind, maker.term(kind, size, scope)))
    return made


class Playful(Lively):
    """Makes pieces that often call what is declared."""

    def term(self, kind, size, scope):
        if size > 0 and self.random.random() < 0.96:
            return self.form(kind, size, scope)
        return self.random.choice([self.plain, self.use])(kind, size, scope)

    def called(self, name, size, scope):
        kinds = ["com" if each == "com" else "exp" for each in scope[name][0]]
        return ("call", name, tuple((each, self.term(each, size - 1, scope)) for each in kinds))

    def fitting(self, kind, size, scope):
        return [name for name in self.declared if scope[name][1] == kind and (size > 0 or not scope[name][0])]

    def use(self, kind, size, scope):
        declared = self.fitting(kind, size, scope)
        if declared and self.random.random() < 0.7:
            return self.called(self.random.choice(declared), size, scope)
        return super().use(kind, size, scope) if size > 0 else self.plain(kind, size, scope)

    def form(self, kind, size, scope):
        declared = self.fitting(kind, size, scope)
        if declared and self.random.random() < 0.25:
            return self.called(self.random.choice(declared), size, scope)
        return super().form(kind, size, scope)

    def plain(self, kind, size, scope):
        labels = [name for name in scope if scope[name] == "label"]
        if labels and self.random.random() < 0.15:
            return ("exit", self.random.choice(labels))
        return super().plain(kind, size, scope)

    def piece(self, size):
        count = self.random.choice([1, 1, 2, 3])
        names = sorted(self.random.sample(["p", "q", "r", "s"], count))
        decls = tuple((name, self.types(), self.random.choice(["com", "com", "exp"])) for name in names)
        kind = self.random.choice(["com", "exp"])
        self.declared = {name: (types, result) for name, types, result in decls}
        return (decls, kind, self.term(kind, size, dict(self.declared)))


def playful_pieces(count, size, seed=0):
    """So many sound pieces that call what is declared; they may be too large."""
    return [Playful(f"playful {seed} {size} {at}", True).piece(size) for at in range(count)]


def leaving_term(chance, size, labels, params=()):
    """A command with many blocks, and with exits within arguments of declared names and procedures."""
    words = ["exit"] * bool(labels) + ["param"] * bool(params) + ["skip"]
    if size > 0:
        words += ["block"] * 3 + ["f", "g", "h"] * 2 + ["seq", "while"]
    word = chance.choice(words)
    if word == "exit":
        return ("exit", chance.choice(labels))
    if word == "param":
        return ("call", chance.choice(params), ())
    if word == "block":
        name = chance.choice(["j", "k"])
        return ("block", name, leaving_term(chance, size - 1, labels + [name], params))
    if word in ("f", "g", "h"):
        arg = ("com", leaving_term(chance, size - 1, labels, params))
        other = ("com", leaving_term(chance, size // 2, labels, params))
        return ("call", word, {"f": (arg, other), "g": (("exp", ("num", 1)), arg), "h": (arg,)}[word])
    if word == "while":
        return ("while", ("num", 1), leaving_term(chance, size - 1, labels, params))
    if word == "seq":
        return ("seq", leaving_term(chance, 0, labels, params), ("block", "j", leaving_term(chance, size, labels + ["j"], params)))
    return ("skip",)


def leaving_pieces(count, size, seed=0):
    """So many sound pieces with exits out of arguments; h is a procedure in them."""
    made = []
    for at in range(count):
        chance = random.Random(f"leaving {seed} {size} {at}")
        body = ("call", "f", (("com", ("call", "a", ())), ("com", ("skip",))))
        if chance.random() < 0.5:
            body = ("block", "k", ("call", "g", (("exp", ("num", 2)), ("com", body))))
        term = ("proc", "h", (("a", "com"),), "com", body, leaving_term(chance, size, []))
        made.append(((("f", ("com", "com"), "com"), ("g", ("val", "com"), "com")), "com", term))
    return made


def modules(count, size, seed=0):
    """So many modules; they may be too large."""
    made = []
    for at in range(count):
        maker = Lively(f"module {seed} {size} {at}", True)
        names = maker.random.sample(["n", "m", "q", "qq", "x"], maker.random.choice([0, 1, 1, 2, 2, 3]))
        variables = tuple((name, maker.random.randrange(3)) for name in names)
        scope = {name: "variable" for name in names}
        operations = []
        for name in maker.random.sample(["get", "inc", "call", "f"], maker.random.choice([1, 2, 2])):
            kind = maker.random.choice(["com", "exp"])
            operations.append((name, kind, maker.term(kind, size, scope)))
        made.append((variables, tuple(operations)))
    return made
