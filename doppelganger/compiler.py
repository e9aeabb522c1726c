"""The code of pieces ([8.4])."""

from doppelganger.errors import TooLarge
from doppelganger.instructions import MAX_CODE, MAX_STACK
from doppelganger.labels import placed
from doppelganger.unfold import nodes_of

# The nodes of which the code itself pushes a number where only the numbers wait that are saved.
PUSHING = ("num", "read", "call")


def code_of_skip(compiler, node):
    """Nothing."""
    return []


def code_of_word(compiler, node):
    """The instruction with this word, behind the operands if there are any."""
    return node.parts + [(node.word,)]


def code_of_num(compiler, node):
    """A number."""
    return [("push", node.data)]


def code_of_read(compiler, node):
    """A variable."""
    return [("load", node.data)]


def code_of_set(compiler, node):
    """The expression, and the variable that gets its value."""
    return node.parts + [("store", node.data)]


def code_of_parts(compiler, node):
    """One part after another."""
    return node.parts


def code_of_if(compiler, node):
    """The condition decides which of the other parts is run."""
    condition, first, second = node.parts
    otherwise, behind = compiler.next_label(), compiler.next_label()
    return [condition, ("jzero", otherwise), first, ("jump", behind), otherwise, second, behind]


def code_of_while(compiler, node):
    """The condition decides whether the loop goes on."""
    condition, command = node.parts
    again, behind = compiler.next_label(), compiler.next_label()
    return [again, condition, ("jzero", behind), command, ("jump", again), behind]


def code_of_new(compiler, node):
    """The variable is there while the last part is run."""
    value, inside = node.parts
    return [value, ("open",), inside, ("close",)]


def code_of_block(compiler, node):
    """The mark is there while the command is run."""
    behind = compiler.next_label()
    return [("block", behind), node.parts[0], ("unblock",), behind]


def code_of_exit(compiler, node):
    """The exit to the mark of the block."""
    return [("exit", compiler.marks[node.data])]


def code_of_arguments(compiler, node):
    """Returns the code of the arguments by name of a call, and the labels at which they begin."""
    made = []
    starts = []
    for of_type, part in zip(node.data[1], node.parts):
        if of_type != "val":
            starts.append(compiler.next_label())
            made.extend([starts[-1], part] + ([("push", 0)] if of_type == "com" else []) + [("end",)])
    if not starts:
        return [], []
    behind = compiler.next_label()
    return [("jump", behind)] + made + [behind], starts


def code_of_call(compiler, node):
    """The arguments by name, which are jumped over, those by value, and the question."""
    name, types, result = node.data
    arguments, starts = code_of_arguments(compiler, node)
    values = [part for of_type, part in zip(types, node.parts) if of_type == "val"]
    question = ("call", compiler.names.index(name), 1 if result == "com" else 0, len(values), *starts)
    return arguments + values + [question] + ([("pop",)] if result == "com" else [])


CODES = {
    "skip": code_of_skip,
    "stop": code_of_word,
    "fault": code_of_word,
    "num": code_of_num,
    "read": code_of_read,
    "set": code_of_set,
    "row": code_of_parts,
    "do": code_of_parts,
    "add": code_of_word,
    "sub": code_of_word,
    "mul": code_of_word,
    "equal": code_of_word,
    "less": code_of_word,
    "if": code_of_if,
    "while": code_of_while,
    "new": code_of_new,
    "block": code_of_block,
    "exit": code_of_exit,
    "call": code_of_call,
}


def marks_at(nodes):
    """Returns for each node how many marks are there, which is how many blocks it stands in."""
    found = []
    for node in nodes:
        if node.above == -1:
            found.append(0)
        else:
            found.append(found[node.above] + (1 if nodes[node.above].word == "block" else 0))
    return found


class Compiler:
    """Makes the code of one piece.

    The code of a node is a list of instructions, of numbers of other nodes, whose code stands
    there, and of labels.
    """

    def __init__(self, piece):
        self.names = [name for name, _, _ in piece[0]]
        self.nodes = nodes_of(piece)
        self.marks = marks_at(self.nodes)
        self.labels = 0

    def next_label(self):
        """Returns a label that was not there yet."""
        self.labels += 1
        return f"label {self.labels}"

    def most(self):
        """Returns the most numbers, variables or marks that are there at some place of the code."""
        found = [1]
        for node, marks in zip(self.nodes, self.marks):
            if node.word in PUSHING:
                found.append(node.saved + 1)
            elif node.word == "new":
                found.append(node.variables + 1)
            elif node.word == "block":
                found.append(marks + 1)
        return max(found)

    def whole(self, kind):
        """Returns the code of the piece, with labels."""
        found = []
        # The last item comes first.
        waiting = [("end",), ("push", 0), 0] if kind == "com" else [("end",), 0]
        while waiting:
            item = waiting.pop()
            if isinstance(item, int):
                code_of = CODES[self.nodes[item].word]
                waiting.extend(code_of(self, self.nodes[item])[::-1])
            else:
                found.append(item)
        return found


def compile_piece(piece):
    """Returns the code of a piece."""
    compiler = Compiler(piece)
    if compiler.most() > MAX_STACK:
        raise TooLarge(f"more than {MAX_STACK} numbers, variables or marks are there at once")
    code = placed(compiler.whole(piece[1]))
    if len(code) > MAX_CODE:
        raise TooLarge(f"the code has more than {MAX_CODE} instructions")
    return code
