"""The rules of [4.1] to [4.7], written down once more by recursion and generators."""

from helpers import row_of
from reference import parts, steps, with_parts
from reference_runs import OPERATORS, Cell, Exit

QUESTION = ("", 0, False, 0)
FAULT = ("!",)


class TooBig(Exception):
    """More than 400 nodes, or more than 2000 beats."""


class Silent(Exception):
    """It is clear that no move follows."""


class Unfolding:
    """Unfolds a piece; each variable and label gets a name of its own each time."""

    def __init__(self, limit=400):
        self.nodes = 0
        self.names = 0
        self.limit = limit

    def fresh(self):
        self.names += 1
        return f"n{self.names}"

    def unfold(self, term, scope):
        """The scope has strings for variables and labels, and functions of arguments for what is called."""
        word = term[0]
        if word == "proc":
            return self.unfold(term[5], {**scope, term[1]: self.procedure(term, scope)})
        if word == "call":
            return scope[term[1]](term[2], scope)
        self.nodes += 1
        if self.nodes > self.limit:
            raise TooBig
        if word == "seq":
            return row_of(steps(self.unfold(term[1], scope)) + steps(self.unfold(term[2], scope)))
        if word in ("new", "block"):
            name = self.fresh()
            inner = self.unfold(term[-1], {**scope, term[1]: name})
            return ("block", name, inner) if word == "block" else ("new", name, self.unfold(term[2], scope), inner)
        if word in ("read", "set", "exit"):
            return (word, scope[term[1]]) + tuple(self.unfold(part, scope) for part in term[2:])
        return with_parts(term, [self.unfold(part, scope) for _, part, _ in parts(term, "com", {})])

    def procedure(self, proc, home):
        _, _, params, _, body, _ = proc

        def call(args, around):
            inner, outside = dict(home), []
            for (name, of_type), (_, arg) in zip(params, args):
                if of_type == "val":
                    inner[name] = self.fresh()
                    self.nodes += 1
                    outside.append((inner[name], arg))
                else:
                    inner[name] = lambda _, __, arg=arg: self.unfold(arg, around)
            made = self.unfold(body, inner)
            for name, arg in reversed(outside):
                made = ("new", name, self.unfold(arg, around), made)
            if self.nodes > self.limit:
                raise TooBig
            return made

        return call

    def declared(self, decl):
        def call(args, around):
            self.nodes += 1
            if self.nodes > self.limit:
                raise TooBig
            return ("call", decl, tuple((kind, self.unfold(arg, around)) for kind, arg in args))

        return call


def unfolded(piece, limit=400):
    """The unfolded term, in which calls have declarations in the place of names, and its number of nodes."""
    decls, _, term = piece
    unfolding = Unfolding(limit)
    made = unfolding.unfold(term, {decl[0]: unfolding.declared(decl) for decl in decls})
    return made, unfolding.nodes


def is_beyond(term, around=()):
    """Whether a term has an exit beyond the border; `around` has the labels and arguments around it, from outside."""
    if term[0] == "exit":
        at = around.index(term[1])
        return any(each in around[:at] for each in around[at + 1:] if isinstance(each, tuple))
    if term[0] == "block":
        return is_beyond(term[2], around + (term[1],))
    if term[0] == "call":
        name, types, _ = term[1]
        return any(
            is_beyond(arg, around + (((name, at),) if types[at] != "val" else ()))
            for at, (_, arg) in enumerate(term[2])
        )
    return any(is_beyond(part, around) for _, part, _ in parts(term, "com", {}))


class Player:
    """Plays a piece: `run` yields pairs (move, situation), and is sent the moves of the other side."""

    def __init__(self):
        self.beats = 0
        self.turn = 0

    def beat(self, many=1):
        self.beats += many
        if self.beats > 2000:
            raise TooBig

    def other(self):
        """Begins what is behind a move of the other side."""
        self.beats = 0
        self.turn += 1

    def whole(self, term):
        try:
            value = yield from self.run(term, (), {}, (), ())
            yield (("", 0, True, value), None)
        except Silent:
            yield (None, None)

    def run(self, term, path, scope, cells, saved):
        """The value; the path tells where the term stands, cells are those of the open variables."""
        word = term[0]
        if word == "seq":
            found = steps(term)
            self.beat(len(found) - 1)
            for at, each in enumerate(found):
                yield from self.run(each, path + (at,), scope, cells, saved)
            return 0
        self.beat()
        if word in OPERATORS:
            left = yield from self.run(term[1], path + (0,), scope, cells, saved)
            right = yield from self.run(term[2], path + (1,), scope, cells, saved + (left,))
            return OPERATORS[word](left, right)
        return (yield from getattr(self, f"run_{word}")(term, path, scope, cells, saved))

    def run_skip(self, *_):
        return 0
        yield

    def run_num(self, term, *_):
        return term[1]
        yield

    def run_read(self, term, path, scope, cells, saved):
        return scope[term[1]].value
        yield

    def run_stop(self, *_):
        raise Silent
        yield

    def run_fault(self, *_):
        yield (FAULT, None)

    def run_set(self, term, path, scope, cells, saved):
        scope[term[1]].value = yield from self.run(term[2], path + (0,), scope, cells, saved)
        return 0

    def run_do(self, term, path, scope, cells, saved):
        yield from self.run(term[1], path + (0,), scope, cells, saved)
        return (yield from self.run(term[2], path + (1,), scope, cells, saved))

    def run_if(self, term, path, scope, cells, saved):
        holds = yield from self.run(term[1], path + (0,), scope, cells, saved)
        at = 1 if holds else 2
        return (yield from self.run(term[at + 1], path + (at,), scope, cells, saved))

    def run_while(self, term, path, scope, cells, saved):
        seen, turn = set(), self.turn
        while True:
            if turn != self.turn:
                seen, turn = set(), self.turn
            now = tuple(cell.value for cell in cells)
            if now in seen:
                raise Silent
            seen.add(now)
            if not (yield from self.run(term[1], path + (0,), scope, cells, saved)):
                return 0
            yield from self.run(term[2], path + (1,), scope, cells, saved)

    def run_new(self, term, path, scope, cells, saved):
        cell = Cell((yield from self.run(term[2], path + (0,), scope, cells, saved)))
        return (yield from self.run(term[3], path + (1,), {**scope, term[1]: cell}, cells + (cell,), saved))

    def run_block(self, term, path, scope, cells, saved):
        block = object()
        try:
            yield from self.run(term[2], path + (0,), {**scope, term[1]: block}, cells, saved)
        except Exit as left:
            if left.block is not block:
                raise
        return 0

    def run_exit(self, term, path, scope, cells, saved):
        raise Exit(scope[term[1]])
        yield

    def run_call(self, term, path, scope, cells, saved):
        (name, types, _), values = term[1], ()
        for at, (of_type, (_, arg)) in enumerate(zip(types, term[2])):
            if of_type == "val":
                value = yield from self.run(arg, path + (at,), scope, cells, saved + values)
                values += (value,)
        move = (name, 0, False, sum(value * 3 ** at for at, value in enumerate(values)))
        while True:
            _, arg, answers, value = yield (move, (path, tuple(cell.value for cell in cells), saved))
            if answers:
                return value
            value = yield from self.run(term[2][arg - 1][1], path + (arg - 1,), scope, cells, saved)
            move = (name, arg, True, value)


def outcome_of(term, others):
    """What an unfolded term does behind these moves of the other side: a pair (move, situation)."""
    player = Player()
    playing = player.whole(term)
    outcome = next(playing)
    for move in others[1:]:
        player.other()
        outcome = playing.send(move)
    return outcome


def other_moves(piece, move):
    """The moves that the other side may make behind a move of the piece, if it waits for what the move calls."""
    name, types, result = next(decl for decl in piece[0] if decl[0] == move)
    found = [(name, 0, True, value) for value in range(3 if result == "exp" else 1)]
    return found + [(name, at + 1, False, 0) for at, of_type in enumerate(types) if of_type != "val"]


def called(term, situation):
    """The name of the call at which a term waits."""
    for at in situation[0]:
        term = steps(term)[at] if term[0] == "seq" else parts_of(term)[at]
    return term[1][0]


def parts_of(term):
    return [part for _, part, _ in parts(term, "com", {})]


def situations_of(piece):
    """All situations that come up, as a dict from them to the moves of the other side that lead there first."""
    term, _ = unfolded(piece)
    found = {}
    waiting = [[QUESTION]]
    while waiting:
        others = waiting.pop(0)
        move, situation = outcome_of(term, others)
        if situation is not None and situation not in found:
            found[situation] = others
            if len(found) > 400:
                raise TooBig
            waiting += [others + [each] for each in other_moves(piece, called(term, situation))]
    return found


def plays_of(piece, length):
    """All plays of a piece with at most so many moves, as a dict from tuples of moves to True."""
    term, _ = unfolded(piece)
    found = {}
    waiting = [[QUESTION]]
    while waiting:
        moves = waiting.pop(0)
        move, situation = outcome_of(term, moves[::2])
        if move is not None:
            play = moves + [move]
            found[tuple(play)] = True
            if situation is not None and len(play) + 2 <= length:
                waiting += [play + [each] for each in other_moves(piece, called(term, situation))]
    return found


def shows(piece, play):
    """Whether a piece has a play, or one that ends with the fault and is otherwise a beginning of it.

    There are no limits, and pieces beyond the border may be given, too.
    """
    player = Player()
    player.beat = lambda many=1: None
    playing = player.whole(unfolded(piece, 10 ** 6)[0])
    move, _ = next(playing)
    for at in range(1, len(play), 2):
        if move == FAULT:
            return True
        if move != play[at]:
            return False
        if at + 1 < len(play):
            player.other()
            move, _ = playing.send(play[at + 1])
    return True


def walk(piece, most, chance):
    """A play of a piece with at most so many moves, in which the other side moves at random; or the empty list."""
    player = Player()
    player.beat = lambda many=1: None
    playing = player.whole(unfolded(piece, 10 ** 6)[0])
    play = [QUESTION]
    move, situation = next(playing)
    while move is not None:
        play.append(move)
        if situation is None or len(play) + 2 > most:
            return play
        play.append(chance.choice(other_moves(piece, called(unfolded(piece, 10 ** 6)[0], situation))))
        player.other()
        move, situation = playing.send(play[-1])
    return play[:-1]


def has_play(piece, play):
    """Whether a piece has a play; there are no limits, and pieces beyond the border may be given, too."""
    player = Player()
    player.beat = lambda many=1: None
    playing = player.whole(unfolded(piece, 10 ** 6)[0])
    move, _ = next(playing)
    for at in range(1, len(play) - 1, 2):
        if move != play[at] or move == FAULT:
            return False
        player.other()
        move, _ = playing.send(play[at + 1])
    return move == play[-1]
