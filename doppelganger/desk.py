"""The desk, on which scripts are run ([9.1], [9.2])."""

from doppelganger.around import around_of
from doppelganger.book import Book
from doppelganger.certify import certify
from doppelganger.compiler import compile_piece
from doppelganger.contexts import fill
from doppelganger.cpu import run_code
from doppelganger.errors import Apart, BadForm, BadKind, BadName, Missing, NotAllowed, Same, TooLarge
from doppelganger.lines import FORMS, read_command
from doppelganger.modules import read_module
from doppelganger.moves import move_text
from doppelganger.reader import read_piece
from doppelganger.relations import same_modules
from doppelganger.runs import run
from doppelganger.same import difference, same
from doppelganger.witness import witness
from doppelganger.writer import piece_text

MAX_SCRIPT = 3000
MAX_LINES = 40
OK = "ok"


def yes_or_no(truth):
    """Returns the answer to a question."""
    return "yes" if truth else "no"


def do_let(desk, name, text):
    """A piece of a text."""
    desk.pieces[name] = read_piece(text)
    return OK


def do_show(desk, name):
    """The text of a piece."""
    return piece_text(desk.pieces[name])


def do_fill(desk, context, name, made):
    """A context that is filled."""
    desk.pieces[made] = fill(desk.pieces[context], desk.pieces[name])
    return OK


def do_run(desk, name):
    """What a program comes to."""
    result, value, steps = run(desk.pieces[name])
    if result == "done":
        return f"done {value} {steps}"
    return f"faulted {steps}" if result == "faulted" else result


def do_same(desk, first, second):
    """Whether pieces are the same."""
    return yes_or_no(same(desk.pieces[first], desk.pieces[second]))


def do_differ(desk, first, second):
    """The play that one of two pieces has alone."""
    play, is_first = difference(desk.pieces[first], desk.pieces[second])
    decls = desk.pieces[first][0]
    moves = " ".join([move_text(decls, move) for move in play])
    return f"{moves} : {first if is_first else second}"


def do_witness(desk, first, second, made):
    """A context that tells pieces apart."""
    desk.pieces[made] = witness(desk.pieces[first], desk.pieces[second])
    return OK


def do_certify(desk, first, second):
    """How many pairs a certificate has."""
    return str(len(certify(desk.pieces[first], desk.pieces[second])))


def do_module(desk, name, text):
    """A module of a text."""
    desk.modules[name] = read_module(text)
    return OK


def do_twin(desk, first, second):
    """Whether modules are the same."""
    return yes_or_no(same_modules(desk.modules[first], desk.modules[second]))


def do_rule(desk, left, right):
    """One rule more."""
    desk.book.add(desk.pieces[left], desk.pieces[right])
    return OK


def do_apply(desk, index, name, number, made):
    """A piece with a node rewritten."""
    desk.pieces[made] = desk.book.apply_rule(index, False, desk.pieces[name], number)
    return OK


def do_simplify(desk, name, made):
    """A piece that is made smaller as long as possible."""
    piece, indexes = desk.book.simplify(desk.pieces[name])
    desk.pieces[made] = piece
    return " ".join([str(index) for index in indexes]) if indexes else "-"


def do_code(desk, name):
    """How many instructions the code of a piece has."""
    return str(len(compile_piece(desk.pieces[name])))


def do_attack(desk, first, second):
    """What two pieces come to with the code that shows in what they differ."""
    pieces = [desk.pieces[first], desk.pieces[second]]
    play, _ = difference(pieces[0], pieces[1])
    codes = [compile_piece(piece) for piece in pieces]
    decls, kind, _ = pieces[0]
    around, entry = around_of(decls, kind, play)
    return " ".join([run_code(code, around, entry)[0] for code in codes])


ACTIONS = {
    "let": do_let,
    "show": do_show,
    "fill": do_fill,
    "run": do_run,
    "same": do_same,
    "differ": do_differ,
    "witness": do_witness,
    "certify": do_certify,
    "module": do_module,
    "twin": do_twin,
    "rule": do_rule,
    "apply": do_apply,
    "simplify": do_simplify,
    "code": do_code,
    "attack": do_attack,
}


class Desk:
    """Pieces and modules with names, and a book of rules."""

    def __init__(self):
        self.pieces = {}
        self.modules = {}
        self.book = Book()

    def has_all(self, command):
        """Tells whether all pieces and modules are there that a line reads."""
        first, *words = command
        for word, field in zip(words, FORMS.get(first, ())):
            if field == "piece" and word not in self.pieces or field == "module" and word not in self.modules:
                return False
        return True

    def do(self, command):
        """Does what a line says, and returns the answer."""
        first, *words = command
        action = ACTIONS[first]
        try:
            return action(self, *words)
        except NotAllowed:
            return "refused"
        except BadForm:
            return "form"
        except BadName:
            return "name"
        except BadKind:
            return "kind"
        except TooLarge:
            return "large"
        except Same:
            return "same"
        except Apart:
            return "apart"
        except Missing:
            return "missing"

    def answer(self, line):
        """Returns the answer to a line."""
        command = read_command(line)
        if command is None:
            return "bad"
        if command == ():
            return ""
        return self.do(command) if self.has_all(command) else "none"


def run_script(script):
    """Returns the answers to the lines of a script."""
    lines = script.split("\n")
    if len(script) > MAX_SCRIPT or len(lines) > MAX_LINES:
        raise NotAllowed(f"a script has at most {MAX_SCRIPT} characters and {MAX_LINES} lines")
    desk = Desk()
    return [desk.answer(line) for line in lines]
