"""Code around a piece that shows a play ([8.8])."""

from doppelganger.labels import placed
from doppelganger.moves import FAULT
from doppelganger.terms import WIDTH
from doppelganger.witness import check_declared, check_shown

# The operations of [8.5] that are used.
END = 0
FAULTED = 1
ASK = 2
ANSWER = 3
ARGUMENT = 4
NUMBER = 5
LOAD = 6
STORE = 7
ADD = 8
JUMP = 9
JUMP_AT_ZERO = 10
NAME = 11
VALUE = 12
GIVE_UP = 13

# The cells: how many moves the piece has made, all of them those of the play; what sort of move it
# has just made; and its value.
MADE = 0
SORT = 1
TOLD = 2
# The sorts of moves: a call, the answer to the question about the piece, and from LATER on the
# answers to the questions about arguments, one for each argument.
CALLED = 0
OVER = 1
LATER = 2
# The index at which the code goes on when the piece asks a name.
ENTRY = 1


def jump_if(number, label):
    """Returns the pairs that go on at a label if A is this number; otherwise they leave A changed."""
    return [(ADD, -number), (JUMP_AT_ZERO, label)]


def arrive(sort):
    """Returns the pairs for the time when the piece has made a move of a sort."""
    return [(STORE, TOLD), (NUMBER, sort), (STORE, SORT), (JUMP, "moved")]


def values_of(decl, value):
    """Returns the values of a call of a declared name, in order."""
    found = []
    for of_type in decl[1]:
        if of_type == "val":
            found.append(value % WIDTH)
            value = value // WIDTH
    return found


class Around:
    """Makes the code that leads a piece along a play.

    On each move of the piece it looks whether that is the next one of the play. If so, it makes the
    move of the other side that follows; otherwise it ends. So it does not matter which question
    an answer belongs to, or what an exit has given up.
    """

    def __init__(self, decls, play):
        self.play = play
        self.names = [name for name, _, _ in decls]
        self.decls = {decl[0]: decl for decl in decls}
        self.arguments = [(name, at + 1) for name, types, _ in decls for at in range(len(types))]

    def sort_of(self, move):
        """Returns the sort of a move of the piece."""
        name, arg, answers, _ = move
        if not answers:
            return CALLED
        return OVER if name == "" else LATER + self.arguments.index((name, arg))

    def checks(self, move):
        """Returns pairs (pair, number): pairs that look at what the piece has done, and the A that they must tell."""
        found = [((LOAD, SORT), self.sort_of(move))]
        name, _, answers, value = move
        if answers:
            return found + [((LOAD, TOLD), value)]
        found.append(((NAME, 0), self.names.index(name) + 1))
        values = values_of(self.decls[name], value)
        return found + [((VALUE, at + 1), each) for at, each in enumerate(values)]

    def compare(self, count, move):
        """Returns the pairs that come to their end if the piece has made a move, and go on at "wrong" otherwise."""
        items = []
        for at, (asking, number) in enumerate(self.checks(move)):
            label = f"checked {count} {at}"
            items.extend([asking] + jump_if(number, label) + [(JUMP, "wrong"), label])
        return items

    def follow(self, move):
        """Returns the pairs that make a move of the other side, and those for the answer of an argument."""
        name, arg, answers, value = move
        if answers:
            return [(NUMBER, value), (ANSWER, 0)]
        by_name = [of_type for of_type in self.decls[name][1][:arg] if of_type != "val"]
        return [(ARGUMENT, len(by_name))] + arrive(LATER + self.arguments.index((name, arg)))

    def after(self, count):
        """Returns the pairs for the time when the piece has made so many moves of the play."""
        if 2 * count == len(self.play):
            return [(JUMP, "right")]
        return [(NUMBER, count), (STORE, MADE)] + self.follow(self.play[2 * count])

    def whole(self):
        """Returns the code with labels."""
        moves = [move for move in self.play[1::2] if move != FAULT]
        items = [(JUMP, "begin")] + arrive(CALLED) + ["begin", (ASK, 0)] + arrive(OVER) + ["moved"]
        for count in range(len(moves)):
            items.extend([(LOAD, MADE)] + jump_if(count, f"move {count}"))
        items.append((JUMP, "wrong"))
        for count, move in enumerate(moves):
            items.extend([f"move {count}"] + self.compare(count, move) + self.after(count + 1))
        return items + self.ends()

    def ends(self):
        """Returns the pairs at "right" and "wrong"."""
        # Only if nothing of the piece is running the code around may end without a fault.
        ends = [(LOAD, SORT)] + jump_if(OVER, "over") + [(GIVE_UP, 0), "over", (END, 0)]
        if self.play[-1] == FAULT:
            return ["wrong"] + ends
        return ["wrong", (FAULTED, 0), "right"] + ends


def around_of(decls, kind, play):
    """Returns the code around that shows whether a piece has a play, and its entry."""
    check_declared(decls, kind)
    check_shown(decls, kind, play)
    return placed(Around(decls, play).whole()), ENTRY
