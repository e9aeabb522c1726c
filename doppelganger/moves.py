"""Moves, letters and their texts ([4.1] to [4.3], [4.10])."""

from doppelganger.errors import BadForm
from doppelganger.terms import WIDTH

QUESTION = ("", 0, False, 0)
FAULT = ("!",)
MAX_PLAY = 40


def answers_of(name, arg, kind):
    """Returns the answers to a question, by their values."""
    return [(name, arg, True, value) for value in range(WIDTH if kind == "exp" else 1)]


def questions_of(decl):
    """Returns the questions about a declared name, by their values."""
    name, types, _ = decl
    many = 1
    for of_type in types:
        if of_type == "val":
            many = many * WIDTH
    return [(name, 0, False, value) for value in range(many)]


def letters_of_args(decl):
    """Returns the questions about the arguments of a declared name, each one before its answers."""
    name, types, _ = decl
    found = []
    for at, of_type in enumerate(types):
        if of_type != "val":
            found.append((name, at + 1, False, 0))
            found.extend(answers_of(name, at + 1, of_type))
    return found


def letters(decls, kind):
    """Returns the letters of declarations and a kind, in order."""
    found = [QUESTION, *answers_of("", 0, kind), FAULT]
    for decl in decls:
        found.extend(questions_of(decl))
        found.extend(answers_of(decl[0], 0, decl[2]))
        found.extend(letters_of_args(decl))
    return found


def other_moves(decl):
    """Returns the moves of the other side when a piece waits for a declared name."""
    name, _, result = decl
    return answers_of(name, 0, result) + [move for move in letters_of_args(decl) if not move[2]]


def is_other(move):
    """Tells whether a letter is a move of the other side."""
    if move == FAULT:
        return False
    name, arg, answers, _ = move
    # The other side asks about the piece and its arguments, and answers the questions of the piece.
    return (name == "" or arg > 0) != answers


def move_text(decls, move):
    """Returns the text of a move."""
    if move == FAULT:
        return "!!"
    name, arg, answers, value = move
    text = name if arg == 0 else f"{name}.{arg}"
    if answers:
        return f"{text}!{value}"
    types = {name_of_decl: types_of_decl for name_of_decl, types_of_decl, _ in decls}
    if arg == 0 and "val" in types.get(name, ()):
        return f"{text}?{value}"
    return f"{text}?"


def read_play(decls, kind, text):
    """Returns the moves of a text."""
    moves = {move_text(decls, move): move for move in letters(decls, kind)}
    parts = text.split(" ") if text else []
    if len(parts) > MAX_PLAY:
        raise BadForm(f"there are more than {MAX_PLAY} moves")
    for part in parts:
        if part not in moves:
            raise BadForm(f"{part!r} is not the text of a letter")
    return [moves[part] for part in parts]
