"""Running the code of a piece together with code around it ([8.5], [8.6])."""

from doppelganger.errors import BadForm, TooLarge
from doppelganger.inner import Inside, Question, begin
from doppelganger.instructions import is_code
from doppelganger.terms import WIDTH

MAX_CELLS = 4
MAX_INNER = 2000
MAX_STEPS = 20000
MAX_NEST = 24
# The numbers of the code around are those of a byte.
BYTE = 256


def end_all(meeting, x):
    """Ends everything, if nothing of the piece is running."""
    meeting.outcome = "faulted" if meeting.asked else "done"


def fault(meeting, x):
    """Ends everything with the fault."""
    meeting.outcome = "faulted"


def ask_piece(meeting, x):
    """Asks about the piece."""
    if meeting.nested == MAX_NEST:
        meeting.outcome = "faulted"
    else:
        meeting.nested += 1
        meeting.ask(Inside(), True, 0)


def answer_call(meeting, x):
    """Answers the call that waits last."""
    call = meeting.waiting()
    if call is None or meeting.total >= (1 if call.is_command else WIDTH):
        meeting.outcome = "faulted"
    else:
        meeting.end_call(call)


def ask_argument(meeting, x):
    """Asks about an argument of the call that waits last."""
    call = meeting.waiting()
    if call is None or not 1 <= x <= len(call.starts):
        meeting.outcome = "faulted"
    else:
        meeting.ask(meeting.asked[-2].inside, False, call.starts[x - 1])


def put_number(meeting, x):
    """A number for A."""
    meeting.total = x % BYTE


def get_cell(meeting, x):
    """The number of a cell for A."""
    meeting.total = meeting.cells[x % MAX_CELLS]


def set_cell(meeting, x):
    """A for a cell."""
    meeting.cells[x % MAX_CELLS] = meeting.total


def add_number(meeting, x):
    """A number more for A."""
    meeting.total = (meeting.total + x) % BYTE


def jump(meeting, x):
    """Goes on at an index."""
    meeting.index = x


def jump_at_zero(meeting, x):
    """Goes on at an index if A is 0."""
    if meeting.total == 0:
        meeting.index = x


def tell_name(meeting, x):
    """The name of the call that waits last for A."""
    call = meeting.waiting()
    meeting.total = 0 if call is None else (call.named + 1) % BYTE


def tell_value(meeting, x):
    """A value of the call that waits last for A."""
    call = meeting.waiting()
    if call is None or not 1 <= x <= len(call.given):
        meeting.outcome = "faulted"
    else:
        meeting.total = call.given[x - 1]


def give_up(meeting, x):
    """Gives up the last question about the piece, and all that was asked in it."""
    if meeting.nested == 0:
        meeting.outcome = "faulted"
    else:
        meeting.nested -= 1
        last = meeting.asked.pop()
        while not isinstance(last, Question) or not last.is_first:
            last = meeting.asked.pop()


OPERATIONS = {
    0: end_all,
    1: fault,
    2: ask_piece,
    3: answer_call,
    4: ask_argument,
    5: put_number,
    6: get_cell,
    7: set_cell,
    8: add_number,
    9: jump,
    10: jump_at_zero,
    11: tell_name,
    12: tell_value,
    13: give_up,
}


class Meeting:
    """The code of a piece and the code around it, which are run in turns.

    `asked` has the questions and calls that are not answered, one upon another: while the piece is
    running, a question is the last one, otherwise a call, if there is one. `seen` has what was
    there when the piece began its instructions since its last move, or None while the code around
    is running. `total` is the number A; `nested` counts the questions about the piece in `asked`.
    """

    def __init__(self, code, around, entry):
        self.code = code
        self.around = around
        self.entry = entry
        self.total = 0
        self.cells = [0] * MAX_CELLS
        self.index = 0
        self.steps = 0
        self.place = 0
        self.seen = None
        self.asked = []
        self.nested = 0
        self.questions = 0
        self.outcome = ""

    def waiting(self):
        """Returns the call that waits last, or None, while the code around is running."""
        return self.asked[-1] if self.asked else None

    def go_on_inside(self, place):
        """Has the piece go on at a place."""
        self.place = place
        self.seen = {}

    def go_on_around(self, index):
        """Has the code around go on at an index."""
        self.index = index
        self.seen = None

    def ask(self, inside, is_first, place):
        """Asks about the piece or about an argument, of which the code begins at a place."""
        self.questions += 1
        self.asked.append(Question(self.questions, inside, is_first, self.index))
        self.go_on_inside(place)

    def end_question(self, value):
        """The piece answers the last question."""
        question = self.asked.pop()
        if question.is_first:
            self.nested -= 1
        self.total = value
        self.go_on_around(question.behind)

    def ask_name(self, call):
        """The piece asks a declared name."""
        self.asked.append(call)
        self.total = (call.named + 1) % BYTE
        self.go_on_around(self.entry)

    def end_call(self, call):
        """The code around answers the last call."""
        self.asked.pop()
        inside = self.asked[-1].inside
        inside.numbers.append(self.total)
        if inside.is_too_full():
            self.outcome = "faulted"
        self.go_on_inside(call.behind)

    def go_back(self, number):
        """Gives up what was asked since a question, and tells whether it is there."""
        while self.asked:
            last = self.asked[-1]
            if isinstance(last, Question) and last.number == number:
                return True
            self.asked.pop()
        return False

    def begin_pair(self):
        """Begins a pair of the code around."""
        if not 0 <= self.index < len(self.around):
            self.outcome = "faulted"
            return
        if self.steps == MAX_STEPS:
            raise TooLarge(f"more than {MAX_STEPS} pairs are begun")
        self.steps += 1
        word, x = self.around[self.index]
        self.index += 1
        operation = OPERATIONS.get(word, fault)
        operation(self, x)

    def begin_instruction(self):
        """Begins an instruction of the piece, unless that was begun just so since the last move."""
        if self.place >= len(self.code):
            self.outcome = "faulted"
            return
        if len(self.seen) == MAX_INNER:
            raise TooLarge(f"more than {MAX_INNER} instructions are begun without a move")
        question = self.asked[-1]
        inside = question.inside
        now = (self.place, question.number, tuple(inside.numbers), tuple(inside.variables), tuple(inside.marks))
        if now in self.seen:
            self.outcome = "never"
            return
        self.seen[now] = True
        instruction = self.code[self.place]
        self.place += 1
        begin(self, inside, instruction)

    def go(self):
        """Runs both until the outcome is there."""
        while self.outcome == "":
            if self.seen is None:
                self.begin_pair()
            else:
                self.begin_instruction()


def run_code(code, around, entry):
    """Returns the result of the code of a piece and the code around it, its value, and the steps."""
    if not is_code(code):
        raise BadForm("the code is not well formed")
    meeting = Meeting(code, around, entry)
    meeting.go()
    value = meeting.total if meeting.outcome == "done" else 0
    return (meeting.outcome, value, meeting.steps)
