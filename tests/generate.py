"""Pieces that are made from a seed: the same ones each time."""

import random

NAMES = ["a", "b", "f", "k", "x", "hole"]
SIGNATURE_TYPES = ["com", "exp", "val"]


class Maker:
    """Makes terms; with `sound` each name is used as it is bound, otherwise names are taken at random."""

    def __init__(self, seed, sound):
        self.random = random.Random(seed)
        self.sound = sound

    def types(self):
        return tuple(self.random.choice(SIGNATURE_TYPES) for _ in range(self.random.choice([0, 0, 1, 2])))

    def piece(self, size):
        count = self.random.choice([0, 1, 2, 3])
        names = sorted(self.random.sample(NAMES, count))
        decls = tuple((name, self.types(), self.random.choice(["com", "exp"])) for name in names)
        kind = self.random.choice(["com", "exp"])
        scope = {name: (types, result) for name, types, result in decls}
        return (decls, kind, self.term(kind, size, scope))

    def term(self, kind, size, scope):
        makers = [self.plain, self.plain, self.use, self.use, self.use]
        if size > 0:
            makers += [self.form] * 8
        return self.random.choice(makers)(kind, size, scope)

    def plain(self, kind, _size, _scope):
        own = {"com": [("skip",)], "exp": [("num", 0), ("num", 1), ("num", 2)]}[kind]
        return self.random.choice(own * 3 + [("stop",), ("fault",)])

    def use(self, kind, size, scope):
        word = self.random.choice(["read", "call", "exit"] if kind == "exp" else ["set", "call", "exit"])
        if self.sound:
            fitting = [name for name in scope if self.fits(word, kind, scope[name])]
            if not fitting:
                return self.plain(kind, size, scope)
            name = self.random.choice(fitting)
        else:
            name = self.random.choice(NAMES)
        if word == "set":
            return (word, name, self.term("exp", size // 2, scope))
        if word == "call":
            return (word, name, self.args(scope.get(name), size, scope))
        return (word, name)

    def fits(self, word, kind, binding):
        if word == "call":
            return isinstance(binding, tuple) and binding[1] == kind
        return binding == ("label" if word == "exit" else "variable")

    def args(self, binding, size, scope):
        if isinstance(binding, tuple) and (self.sound or self.random.random() < 0.8):
            kinds = ["com" if each == "com" else "exp" for each in binding[0]]
        else:
            kinds = [self.random.choice(["com", "exp"]) for _ in self.types()]
        return tuple((kind, self.term(kind, size // 2, scope)) for kind in kinds)

    def form(self, kind, size, scope):
        forms = [self.condition, self.variable, self.procedure]
        forms += [self.row, self.row, self.loop, self.block] if kind == "com" else [self.operation] * 5 + [self.do]
        return self.random.choice(forms)(kind, size - 1, scope)

    def row(self, _kind, size, scope):
        whole = self.step(size, scope)
        for _ in range(self.random.choice([1, 1, 2, 3])):
            whole = ("seq", whole, self.step(size // 2, scope))
        return whole

    def step(self, size, scope):
        step = ("seq",)
        while step[0] == "seq":
            step = self.term("com", size, scope)
        return step

    def loop(self, _kind, size, scope):
        return ("while", self.term("exp", size // 2, scope), self.term("com", size, scope))

    def block(self, _kind, size, scope):
        name = self.random.choice(NAMES)
        return ("block", name, self.term("com", size, {**scope, name: "label"}))

    def operation(self, _kind, size, scope):
        word = self.random.choice(["add", "sub", "mul", "equal", "less"])
        return (word, self.term("exp", size, scope), self.term("exp", size, scope))

    def do(self, _kind, size, scope):
        return ("do", self.term("com", size // 2, scope), self.term("exp", size, scope))

    def condition(self, kind, size, scope):
        parts = [self.term(each, size // 2, scope) for each in ("exp", kind, kind)]
        return ("if", *parts)

    def variable(self, kind, size, scope):
        name = self.random.choice(NAMES)
        value = self.term("exp", size // 2, scope)
        return ("new", name, value, self.term(kind, size, {**scope, name: "variable"}))

    def procedure(self, kind, size, scope):
        name, result = self.random.choice(NAMES), self.random.choice(["com", "exp"])
        types = self.types()
        params = tuple(zip(self.random.sample(NAMES, len(types)), types))
        bound = {param: "variable" if each == "val" else ((), each) for param, each in params}
        body = self.term(result, size // 2, {**scope, **bound})
        return ("proc", name, params, result, body, self.term(kind, size, {**scope, name: (types, result)}))


def pieces(count, size, sound=True, seed=0):
    """So many pieces; sound ones may still be too large."""
    return [Maker(f"{seed} {size} {at}", sound).piece(size) for at in range(count)]
