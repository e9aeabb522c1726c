"""What a piece does behind the moves of the other side ([4.5], [4.6], [4.9])."""

from doppelganger.errors import NotAllowed, TooLarge
from doppelganger.moves import FAULT, MAX_PLAY, QUESTION, other_moves
from doppelganger.runs import operate
from doppelganger.terms import WIDTH
from doppelganger.unfold import is_beyond_border, nodes_of, values_before

MAX_BEATS = 2000
MAX_SITUATIONS = 400

# A situation is a triple: the number of the node of the call, the values of the open variables,
# and the values that are saved. An outcome is a pair of the move that the piece makes, or None if
# it makes none, and the situation in which it waits then, or None if nothing follows.


def begin_skip(engine, number, node):
    """A beat that does nothing."""
    engine.give(0)


def begin_num(engine, number, node):
    """A number."""
    engine.give(node.data)


def begin_read(engine, number, node):
    """A variable."""
    engine.give(engine.held[node.data])


def begin_stop(engine, number, node):
    """No move follows."""
    engine.make(None, None)


def begin_fault(engine, number, node):
    """The fault, which is a move."""
    engine.make(FAULT, None)


def begin_exit(engine, number, node):
    """Everything is over that was begun in the block."""
    engine.leave(node.data)
    engine.give(0)


def begin_while(engine, number, node):
    """The loop has seen no values yet."""
    engine.seen[number] = {}
    engine.begin_round(number)


def begin_call(engine, number, node):
    """The arguments of the type `val` are run before the question."""
    engine.go_on_with_call(number, 0)


def begin_first(engine, number, node):
    """First the first part."""
    engine.due = node.parts[0]


BEGINNINGS = {
    "skip": begin_skip,
    "num": begin_num,
    "read": begin_read,
    "stop": begin_stop,
    "fault": begin_fault,
    "exit": begin_exit,
    "while": begin_while,
    "call": begin_call,
}


def end_set(engine, number, place, value):
    """The variable gets the value."""
    engine.held[engine.nodes[number].data] = value
    engine.finish(number, 0)


def end_in_row(engine, number, place, value):
    """The next part follows, or the value of the last one is that of the whole."""
    parts = engine.nodes[number].parts
    if place + 1 < len(parts):
        engine.due = parts[place + 1]
    else:
        engine.finish(number, value)


def end_operand(engine, number, place, value):
    """The left operand is saved while the right one is run."""
    node = engine.nodes[number]
    if place == 0:
        engine.saved.append(value)
        engine.due = node.parts[1]
    else:
        engine.finish(number, operate(node.word, engine.saved.pop(), value))


def end_in_if(engine, number, place, value):
    """The condition decides which part follows."""
    if place == 0:
        engine.due = engine.nodes[number].parts[1 if value else 2]
    else:
        engine.finish(number, value)


def end_in_while(engine, number, place, value):
    """The condition decides whether the loop goes on; behind the command it begins again."""
    if place == 1:
        engine.begin_round(number)
    elif value:
        engine.due = engine.nodes[number].parts[1]
    else:
        engine.finish(number, 0)


def end_in_new(engine, number, place, value):
    """The variable is made, and forgotten behind the last part."""
    if place == 0:
        engine.held.append(value)
        engine.due = engine.nodes[number].parts[1]
    else:
        engine.held.pop()
        engine.finish(number, value)


def end_in_block(engine, number, place, value):
    """The command is over."""
    engine.finish(number, value)


def end_argument(engine, number, place, value):
    """A value is handed over with the question; an argument by name is answered."""
    name, types, _ = engine.nodes[number].data
    if types[place] == "val":
        engine.saved.append(value)
        engine.go_on_with_call(number, place + 1)
    else:
        engine.wait(number, (name, place + 1, True, value))


ENDS = {
    "set": end_set,
    "row": end_in_row,
    "do": end_in_row,
    "add": end_operand,
    "sub": end_operand,
    "mul": end_operand,
    "equal": end_operand,
    "less": end_operand,
    "if": end_in_if,
    "while": end_in_while,
    "new": end_in_new,
    "block": end_in_block,
    "call": end_argument,
}


class Engine:
    """Runs a piece behind one move of the other side.

    `due` is the number of the node that is begun next, or -1 if a node is over: then `over` is its
    number and `value` its value. `held` has the values of the open variables, `saved` those that
    wait. What is to be done behind a node is told by where the node stands.
    """

    def __init__(self, nodes, held, saved):
        self.nodes = nodes
        self.held = list(held)
        self.saved = list(saved)
        self.beats = 0
        # For each loop the values with which it was about to run its condition.
        self.seen = {}
        self.due = -1
        self.over = -1
        self.value = 0
        self.outcome = None

    def give(self, value):
        """Ends the node that was begun last, or the block of an exit."""
        self.finish(self.over, value)

    def finish(self, number, value):
        """Ends a node with a value."""
        self.due = -1
        self.over = number
        self.value = value

    def make(self, move, situation):
        """Ends the run with a move, or with None."""
        self.outcome = (move, situation)

    def wait(self, number, move):
        """Ends the run with a move behind which the piece waits at a call."""
        self.make(move, (number, tuple(self.held), tuple(self.saved)))

    def leave(self, block):
        """Goes back to what was open at a block, which is over then."""
        node = self.nodes[block]
        del self.held[node.variables:]
        del self.saved[node.saved:]
        self.over = block

    def begin_round(self, number):
        """Runs the condition of a loop, unless all open variables have values that were seen here."""
        now = tuple(self.held)
        seen = self.seen.setdefault(number, {})
        if now in seen:
            self.make(None, None)
        else:
            seen[now] = True
            self.due = self.nodes[number].parts[0]

    def go_on_with_call(self, number, place):
        """Runs the next argument of the type `val` from a place on, or asks the question."""
        node = self.nodes[number]
        name, types, _ = node.data
        later = [at for at in range(place, len(types)) if types[at] == "val"]
        if later:
            self.due = node.parts[later[0]]
            return
        many = values_before(node.data, len(types))
        total = 0
        for _ in range(many):
            total = total * WIDTH + self.saved.pop()
        self.wait(number, (name, 0, False, total))

    def begin_due(self):
        """Makes a beat, or several for a row, which stands for several nodes."""
        number = self.due
        node = self.nodes[number]
        self.beats += len(node.parts) - 1 if node.word == "row" else 1
        if self.beats > MAX_BEATS:
            raise TooLarge(f"more than {MAX_BEATS} beats behind one move")
        self.due = -1
        self.over = number
        begin = BEGINNINGS.get(node.word, begin_first)
        begin(self, number, node)

    def end_over(self):
        """Goes on behind a node that is over."""
        node = self.nodes[self.over]
        if node.above == -1:
            self.make(("", 0, True, self.value), None)
        else:
            end = ENDS[self.nodes[node.above].word]
            end(self, node.above, node.place, self.value)

    def go(self):
        """Runs until the piece makes a move, or until it is clear that it makes none."""
        while self.outcome is None:
            if self.due >= 0:
                self.begin_due()
            else:
                self.end_over()
        return self.outcome


def nodes_within(piece):
    """Returns the nodes of the unfolded term of a piece that is not beyond the border."""
    found = nodes_of(piece)
    if is_beyond_border(found):
        raise NotAllowed("the piece is beyond the border")
    return found


def first_outcome(nodes):
    """Returns the outcome behind the question about the piece."""
    engine = Engine(nodes, (), ())
    engine.due = 0
    return engine.go()


def outcome_behind(nodes, situation, move):
    """Returns the outcome behind a move of the other side in a situation."""
    number, held, saved = situation
    engine = Engine(nodes, held, saved)
    _, arg, answers, value = move
    if answers:
        engine.finish(number, value)
    else:
        engine.due = nodes[number].parts[arg - 1]
    return engine.go()


def moves_in(nodes, situation):
    """Returns the moves that the other side may make in a situation."""
    return other_moves(nodes[situation[0]].data)


def outcomes_of(nodes):
    """Returns the first outcome, and a dict from situations to pairs (move, outcome behind it)."""
    first = first_outcome(nodes)
    found = {}
    waiting = [first[1]]
    while waiting:
        situation = waiting.pop()
        if situation is None or situation in found:
            continue
        if len(found) == MAX_SITUATIONS:
            raise TooLarge(f"more than {MAX_SITUATIONS} situations come up")
        outcomes = [(move, outcome_behind(nodes, situation, move)) for move in moves_in(nodes, situation)]
        found[situation] = outcomes
        waiting.extend([outcome[1] for _, outcome in outcomes])
    return first, found


def follow(nodes, moves):
    """Returns the outcome behind moves of which the other side makes the last one, or None if they do not fit."""
    if moves[:1] != [QUESTION]:
        return None
    outcome = first_outcome(nodes)
    for at in range(1, len(moves) - 1, 2):
        made, situation = outcome
        if moves[at] != made or situation is None or moves[at + 1] not in moves_in(nodes, situation):
            return None
        outcome = outcome_behind(nodes, situation, moves[at + 1])
    return outcome


def reply(piece, moves):
    """Returns the move that a piece makes behind these moves, or None if it makes none."""
    nodes = nodes_within(piece)
    if len(moves) > MAX_PLAY or len(moves) & 1 == 0:
        raise NotAllowed(f"there are no moves, an even number of them, or more than {MAX_PLAY}")
    outcome = follow(nodes, moves)
    if outcome is None:
        raise NotAllowed("the moves are not those of a play and one of the other side")
    return outcome[0]


def count_situations(piece):
    """Returns the number of situations that come up in the plays of a piece."""
    _, found = outcomes_of(nodes_within(piece))
    return len(found)
