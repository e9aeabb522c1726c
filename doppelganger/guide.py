"""Contexts that lead a piece along a play ([5.5])."""

from doppelganger.contexts import HOLE
from doppelganger.terms import WIDTH

# More than enough, as a piece declares three names at most.
NAMES = ("a", "b", "c", "d", "e", "f", "g", "h", "i")
STOP = ("stop",)
ZERO = ("num", 0)


def choice(cases, last):
    """Returns a term that does what the first pair (condition, term) says whose condition holds, or the last one."""
    term = last
    for condition, chosen in reversed(cases):
        term = ("if", condition, chosen, term)
    return term


def is_one_of(conditions):
    """Returns a condition that holds if one of some conditions holds, of which no two hold at once."""
    whole = conditions[0]
    for condition in conditions[1:]:
        whole = ("add", whole, condition)
    return whole


class Guide:
    """Makes the parts of a context that leads a piece along a play.

    The variables `low` and `high` count the moves that the piece has made, all of which were those
    of the play: their number tells what the other side does next, and which move of the piece must
    follow. On any other move the context stops at once; on the last one it makes the fault. So it
    does not matter which calls are open, or whether an exit has left some of them.
    """

    def __init__(self, decls, play):
        declared = [name for name, _, _ in decls]
        free = [name for name in NAMES if name not in declared]
        self.low, self.high, self.told, self.label = free[:4]
        self.params = free[4:6]
        self.play = play

    def has_made(self, count):
        """Returns the condition that the piece has made so many moves."""
        low = ("equal", ("read", self.low), ("num", count % WIDTH))
        return ("mul", low, ("equal", ("read", self.high), ("num", count // WIDTH)))

    def after(self, count):
        """Returns the command for the time when the piece has just made so many moves of the play."""
        if 2 * count == len(self.play):
            return ("fault",)
        return ("seq", ("set", self.low, ("num", count % WIDTH)), ("set", self.high, ("num", count // WIDTH)))

    def check(self, beginning, variables):
        """Returns the command that looks at a move of the piece that begins in this way.

        The variables have its values, if there are any to look at.
        """
        cases = []
        for count, move in enumerate(self.play[1::2]):
            if move[:3] == beginning:
                condition = self.has_made(count)
                for variable, value in zip(variables, (move[3] % WIDTH, move[3] // WIDTH)):
                    condition = ("mul", condition, ("equal", ("read", variable), ("num", value)))
                cases.append((condition, self.after(count + 1)))
        return choice(cases, STOP)

    def asked(self, name, kind, beginning):
        """Returns the command that calls a name without arguments and looks at its answer."""
        call = ("call", name, ())
        if kind == "com":
            return ("seq", call, self.check(beginning, []))
        return ("new", self.told, call, self.check(beginning, [self.told]))

    def counts_of(self, beginning):
        """Returns the pairs (number of moves that the piece has made, value) behind which the other side moves so."""
        later = list(enumerate(self.play[::2]))[1:]
        return [(count, move[3]) for count, move in later if move[:3] == beginning]

    def questions(self, decl):
        """Returns the cases in which an argument of a declared name is asked for."""
        name, types, _ = decl
        cases = []
        for at, of_type in enumerate(types):
            counts = self.counts_of((name, at + 1, False))
            if counts:
                condition = is_one_of([self.has_made(count) for count, _ in counts])
                cases.append((condition, self.asked(self.params[at], of_type, (name, at + 1, True))))
        return cases

    def body(self, decl):
        """Returns the body of the procedure that stands for a declared name."""
        name, types, result = decl
        values = [param for param, of_type in zip(self.params, types) if of_type == "val"]
        command = self.check((name, 0, False), values)
        cases = self.questions(decl)
        if cases:
            loop = ("while", ("num", 1), choice(cases, ("exit", self.label)))
            command = ("seq", command, ("block", self.label, loop))
        if result == "com":
            return command
        answers = [(self.has_made(count), ("num", value)) for count, value in self.counts_of((name, 0, True))]
        return ("do", command, choice(answers, ZERO))

    def whole(self, decls, kind):
        """Returns the term of the context."""
        term = self.asked(HOLE, kind, ("", 0, True))
        for decl in reversed(decls):
            name, types, result = decl
            term = ("proc", name, tuple(zip(self.params, types)), result, self.body(decl), term)
        return ("new", self.low, ZERO, ("new", self.high, ZERO, term))


def guiding_context(decls, kind, play):
    """Returns the context that leads a piece with these declarations and this kind along a play."""
    return (((HOLE, (), kind),), "com", Guide(decls, play).whole(decls, kind))
