"""What the instructions of the code of a piece do ([8.1], [8.2])."""

from doppelganger.instructions import MAX_STACK
from doppelganger.runs import operate


class Inside:
    """What a question about the piece has of its own; its arguments are run with it, too.

    A mark is a tuple: how many numbers and variables there were, the number of the question that
    was being run, and a place.
    """

    def __init__(self):
        self.numbers = []
        self.variables = []
        self.marks = []

    def is_too_full(self):
        """Tells whether there are more numbers, variables or marks than there may be."""
        return max(len(self.numbers), len(self.variables), len(self.marks)) > MAX_STACK


class Question:
    """A question about the piece, or about an argument.

    `behind` is the index at which the code around goes on when it is answered.
    """

    def __init__(self, number, inside, is_first, behind):
        self.number = number
        self.inside = inside
        self.is_first = is_first
        self.behind = behind


class Call:
    """A question of the piece about a declared name.

    `behind` is the place at which the piece goes on when it is answered.
    """

    def __init__(self, instruction, given, behind):
        self.named = instruction[1]
        self.is_command = instruction[2] == 1
        self.starts = instruction[4:]
        self.given = given
        self.behind = behind


def do_end(meeting, inside, instruction):
    """Answers the question that is being run."""
    meeting.end_question(inside.numbers.pop())


def do_fault(meeting, inside, instruction):
    """The fault."""
    meeting.outcome = "faulted"


def do_stop(meeting, inside, instruction):
    """Something that never ends."""
    meeting.outcome = "never"


def do_push(meeting, inside, instruction):
    """One number more."""
    inside.numbers.append(instruction[1])


def do_pop(meeting, inside, instruction):
    """One number less."""
    inside.numbers.pop()


def do_open(meeting, inside, instruction):
    """One variable more, with a number as its value."""
    inside.variables.append(inside.numbers.pop())


def do_close(meeting, inside, instruction):
    """One variable less."""
    inside.variables.pop()


def do_load(meeting, inside, instruction):
    """The value of a variable."""
    inside.numbers.append(inside.variables[instruction[1]])


def do_store(meeting, inside, instruction):
    """Another value for a variable."""
    inside.variables[instruction[1]] = inside.numbers.pop()


def do_operator(meeting, inside, instruction):
    """The result of two numbers, of which the right one was pushed last."""
    right = inside.numbers.pop()
    left = inside.numbers.pop()
    inside.numbers.append(operate(instruction[0], left, right))


def do_jump(meeting, inside, instruction):
    """Goes on at a place."""
    meeting.place = instruction[1]


def do_jzero(meeting, inside, instruction):
    """Goes on at a place if a number is 0."""
    if inside.numbers.pop() == 0:
        meeting.place = instruction[1]


def do_call(meeting, inside, instruction):
    """Asks a declared name."""
    first = len(inside.numbers) - instruction[3]
    given = inside.numbers[first:]
    del inside.numbers[first:]
    meeting.ask_name(Call(instruction, given, meeting.place))


def do_block(meeting, inside, instruction):
    """One mark more."""
    number = meeting.asked[-1].number
    inside.marks.append((len(inside.numbers), len(inside.variables), number, instruction[1]))


def do_unblock(meeting, inside, instruction):
    """One mark less."""
    inside.marks.pop()


def do_exit(meeting, inside, instruction):
    """Goes back to what was there when a mark was made, if all of that is still there."""
    numbers, variables, number, place = inside.marks[instruction[1]]
    if len(inside.numbers) < numbers or len(inside.variables) < variables or not meeting.go_back(number):
        meeting.outcome = "faulted"
        return
    del inside.numbers[numbers:]
    del inside.variables[variables:]
    del inside.marks[instruction[1]:]
    meeting.place = place


ACTIONS = {
    "end": do_end,
    "fault": do_fault,
    "stop": do_stop,
    "push": do_push,
    "pop": do_pop,
    "open": do_open,
    "close": do_close,
    "load": do_load,
    "store": do_store,
    "add": do_operator,
    "sub": do_operator,
    "mul": do_operator,
    "equal": do_operator,
    "less": do_operator,
    "jump": do_jump,
    "jzero": do_jzero,
    "call": do_call,
    "block": do_block,
    "unblock": do_unblock,
    "exit": do_exit,
}
# How many numbers the instructions pop, if they pop any; a call tells it itself.
POPS = {"end": 1, "pop": 1, "open": 1, "store": 1, "jzero": 1, "add": 2, "sub": 2, "mul": 2, "equal": 2, "less": 2}


def is_there(inside, instruction):
    """Tells whether the numbers, variables and marks are there that an instruction needs."""
    word = instruction[0]
    pops = instruction[3] if word == "call" else POPS.get(word, 0)
    if len(inside.numbers) < pops:
        return False
    if word in ("load", "store"):
        return instruction[1] < len(inside.variables)
    if word == "exit":
        return instruction[1] < len(inside.marks)
    if word == "close":
        return len(inside.variables) > 0
    return word != "unblock" or len(inside.marks) > 0


def begin(meeting, inside, instruction):
    """Does what an instruction says; what cannot be done is the fault."""
    if not is_there(inside, instruction):
        meeting.outcome = "faulted"
        return
    action = ACTIONS[instruction[0]]
    action(meeting, inside, instruction)
    if inside.is_too_full():
        meeting.outcome = "faulted"
