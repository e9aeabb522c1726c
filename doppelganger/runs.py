"""Running programs ([2.1] to [2.6])."""

from doppelganger.errors import NotAllowed, TooLarge
from doppelganger.terms import WIDTH

MAX_STEPS = 20000

# While a program runs, a scope is a dict that tells what the names mean: a variable is a place in
# the store; what can be called is a triple (params, body, scope of the body), where an argument is
# like a procedure without parameters; a label is a pair of how many frames and variables there
# were when its block was begun. A scope is never modified.


def operate(kind, first, second):
    """Returns the value of an operator."""
    if kind == "add":
        return (first + second) % WIDTH
    if kind == "sub":
        return (first - second) % WIDTH
    if kind == "mul":
        return (first * second) % WIDTH
    if kind == "equal":
        return 1 if first == second else 0
    if kind == "less":
        return 1 if first < second else 0
    raise NotAllowed(f"{kind} is not an operator")


def begin_skip(state, term, scope):
    """A step that does nothing."""
    state.give(0)


def begin_num(state, term, scope):
    """A number."""
    state.give(term[1])


def begin_read(state, term, scope):
    """A variable."""
    state.give(state.store[scope[term[1]]])


def begin_stop(state, term, scope):
    """Something that never ends."""
    state.outcome = "never" if state.watched else "running"


def begin_fault(state, term, scope):
    """The end of the whole program."""
    state.outcome = "faulted"


def begin_set(state, term, scope):
    """First the value that the variable gets."""
    state.frames.append(("set", scope[term[1]]))
    state.begin(term[2], scope)


def begin_both(state, term, scope):
    """First the first part, then the second one, whose value is that of the whole."""
    state.frames.append(("then", term[2], scope))
    state.begin(term[1], scope)


def begin_operator(state, term, scope):
    """First the left operand."""
    state.frames.append(("left", term[0], term[2], scope))
    state.begin(term[1], scope)


def begin_if(state, term, scope):
    """First the condition."""
    state.frames.append(("if", term, scope))
    state.begin(term[1], scope)


def begin_while(state, term, scope):
    """The loop as often as it goes on; it has seen no values yet."""
    state.begin_round(term, scope, {})


def begin_new(state, term, scope):
    """First the value with which the variable begins."""
    state.frames.append(("new", term, scope))
    state.begin(term[2], scope)


def begin_proc(state, term, scope):
    """The block, in which the procedure is bound; its body has the scope that is here."""
    _, name, params, _, body, block = term
    state.begin(block, {**scope, name: (params, body, scope)})


def begin_block(state, term, scope):
    """The command, whose label tells to what an exit goes back."""
    state.begin(term[2], {**scope, term[1]: (len(state.frames), len(state.store))})


def begin_exit(state, term, scope):
    """Everything is over that was begun in the run of the block."""
    frames, variables = scope[term[1]]
    del state.frames[frames:]
    del state.store[variables:]
    state.give(0)


def begin_call(state, term, scope):
    """First the arguments that are handed over as numbers."""
    pass_arguments(state, term, scope, ())


def pass_arguments(state, call, scope, given):
    """Runs the next argument of the type `val`, or the body if all of them are given."""
    params = scope[call[1]][0]
    places = [at for at in range(len(params)) if params[at][1] == "val"]
    if len(given) == len(places):
        begin_body(state, call, scope, given)
    else:
        state.frames.append(("argument", call, scope, given))
        state.begin(call[2][places[len(given)]][1], scope)


def begin_body(state, call, scope, given):
    """The body of what is called, with the arguments as they are handed over."""
    params, body, home = scope[call[1]]
    inner = dict(home)
    before = len(state.store)
    for (name, of_type), (_, arg) in zip(params, call[2]):
        if of_type == "val":
            inner[name] = len(state.store)
            state.store.append(given[len(state.store) - before])
        else:
            inner[name] = ((), arg, scope)
    if given:
        state.frames.append(("forget", before))
    state.begin(body, inner)


BEGINNINGS = {
    "skip": begin_skip,
    "num": begin_num,
    "read": begin_read,
    "stop": begin_stop,
    "fault": begin_fault,
    "set": begin_set,
    "seq": begin_both,
    "do": begin_both,
    "add": begin_operator,
    "sub": begin_operator,
    "mul": begin_operator,
    "equal": begin_operator,
    "less": begin_operator,
    "if": begin_if,
    "while": begin_while,
    "new": begin_new,
    "proc": begin_proc,
    "block": begin_block,
    "exit": begin_exit,
    "call": begin_call,
}


def go_on_set(state, frame, value):
    """The variable gets the value."""
    state.store[frame[1]] = value
    state.give(0)


def go_on_then(state, frame, value):
    """The second part follows the first one."""
    _, term, scope = frame
    state.begin(term, scope)


def go_on_left(state, frame, value):
    """The right operand follows the left one."""
    _, word, term, scope = frame
    state.frames.append(("right", word, value))
    state.begin(term, scope)


def go_on_right(state, frame, value):
    """Both operands are there."""
    _, word, left = frame
    state.give(operate(word, left, value))


def go_on_if(state, frame, value):
    """The condition decides which part follows."""
    _, term, scope = frame
    state.begin(term[2] if value else term[3], scope)


def go_on_while(state, frame, value):
    """The condition decides whether the loop goes on."""
    _, term, scope, seen = frame
    if value:
        state.frames.append(("again", term, scope, seen))
        state.begin(term[2], scope)
    else:
        state.give(0)


def go_on_again(state, frame, value):
    """The loop begins again behind its command."""
    _, term, scope, seen = frame
    state.begin_round(term, scope, seen)


def go_on_new(state, frame, value):
    """The variable is made, and forgotten behind the last part."""
    _, term, scope = frame
    place = len(state.store)
    state.store.append(value)
    state.frames.append(("forget", place))
    state.begin(term[3], {**scope, term[1]: place})


def go_on_forget(state, frame, value):
    """The variables from a place on are forgotten; the value is handed on."""
    del state.store[frame[1]:]
    state.give(value)


def go_on_argument(state, frame, value):
    """One more argument is given."""
    _, call, scope, given = frame
    pass_arguments(state, call, scope, (*given, value))


FRAMES = {
    "set": go_on_set,
    "then": go_on_then,
    "left": go_on_left,
    "right": go_on_right,
    "if": go_on_if,
    "while": go_on_while,
    "again": go_on_again,
    "new": go_on_new,
    "forget": go_on_forget,
    "argument": go_on_argument,
}


class Run:
    """A run of a program.

    `due` is the term that is begun next and its scope, or None if a value is there instead, which
    goes to the last one of the frames. These tell what is still to be done with the values of the
    terms that are being run; they are kept in a list, as calls may lie thousands deep within
    calls. The store has the values of the variables that are there, in the order in which they
    were made. A run that is watched finds out that it never ends.
    """

    def __init__(self, term, limit, watched):
        self.limit = limit
        self.watched = watched
        self.steps = 0
        self.outcome = ""
        self.due = (term, {})
        self.value = 0
        self.frames = []
        self.store = []

    def begin(self, term, scope):
        """Has a term begun next."""
        self.due = (term, scope)

    def give(self, value):
        """Has a value go to the last frame next."""
        self.due = None
        self.value = value

    def begin_round(self, term, scope, seen):
        """Runs the condition of a loop, unless all variables have values that were seen here."""
        if self.watched:
            now = tuple(self.store)
            if now in seen:
                self.outcome = "never"
                return
            seen[now] = True
        self.frames.append(("while", term, scope, seen))
        self.begin(term[1], scope)

    def make_step(self):
        """Begins the term that is due, if one more step is left."""
        if self.steps == self.limit:
            self.outcome = "running"
            return
        self.steps += 1
        term, scope = self.due
        begin = BEGINNINGS[term[0]]
        begin(self, term, scope)

    def end_frame(self):
        """Goes on with the value where the last frame says."""
        frame = self.frames.pop()
        go_on = FRAMES[frame[0]]
        go_on(self, frame, self.value)

    def go(self):
        """Runs until the outcome is there."""
        while self.outcome == "":
            if self.due is not None:
                self.make_step()
            elif self.frames:
                self.end_frame()
            else:
                self.outcome = "done"

    def result(self):
        """Returns what is told of a run that has its outcome."""
        if self.outcome == "done":
            return ("done", self.value, self.steps)
        if self.outcome == "faulted":
            return ("faulted", 0, self.steps)
        if self.outcome == "never":
            return ("never", 0, 0)
        return ("running", 0, self.limit)


def run_of(piece, limit, watched):
    """Returns the result of a program, run for at most so many steps."""
    decls, _, term = piece
    if decls:
        raise NotAllowed("a piece with declarations is not a program")
    made = Run(term, limit, watched)
    made.go()
    return made.result()


def run(piece):
    """Returns the result of a program."""
    result = run_of(piece, MAX_STEPS, True)
    if result[0] == "running":
        raise TooLarge(f"the program makes more than {MAX_STEPS} steps")
    return result


def run_for(piece, limit):
    """Returns the result of a program, or that it is still running behind so many steps."""
    if not 0 <= limit <= MAX_STEPS:
        raise NotAllowed(f"the limit is not from 0 to {MAX_STEPS}")
    return run_of(piece, limit, False)
