"""Plays that are possible, and programs that show them ([5.4] to [5.6])."""

from doppelganger.contexts import HOLE
from doppelganger.errors import BadForm, BadName, NotAllowed, TooLarge
from doppelganger.guide import guiding_context
from doppelganger.moves import FAULT, QUESTION, is_other, letters
from doppelganger.plays import is_play
from doppelganger.same import check_comparable, difference
from doppelganger.terms import KINDS, are_decls

MAX_SHOWN = 12

# What is open is a list of pairs of a name and an argument, with the empty text and 0 for the
# question about the piece. It is empty when the play is over.


def last_place(opened, question):
    """Returns the last place of a question in a list of open ones, or -1 if it is not there."""
    return max([at for at, each in enumerate(opened) if each == question], default=-1)


def opened_by_piece(opened, move):
    """Returns what is open behind a move of the piece, or None if the move does not fit."""
    if move == FAULT:
        return []
    name, arg, answers, _ = move
    if not answers:
        return opened + [(name, 0)]
    last = last_place(opened, (name, arg))
    return None if last < 0 else opened[:last]


def opened_by_other(opened, move):
    """Returns what is open behind a move of the other side, or None if the move does not fit."""
    name, arg, answers, _ = move
    if opened[-1] != (name, 0) or name == "":
        return None
    return opened[:-1] if answers else opened + [(name, arg)]


def is_possible(decls, kind, play):
    """Tells whether a list of moves is possible for declarations and a kind."""
    signs = letters(decls, kind)
    if play[:1] != [QUESTION] or len(play) & 1 == 1 or not all([move in signs for move in play]):
        return False
    opened = [("", 0)]
    for at in range(1, len(play)):
        move = play[at]
        if not opened or is_other(move) != (at & 1 == 0):
            return False
        opened = opened_by_other(opened, move) if is_other(move) else opened_by_piece(opened, move)
        if opened is None:
            return False
    return True


def check_hole_is_free(decls):
    """Raises BadName if the name of the hole is declared."""
    if HOLE in [name for name, _, _ in decls]:
        raise BadName("the name of the hole is declared")


def check_shown(decls, kind, play):
    """Raises an error if a list of moves is not possible, or too long to be shown."""
    if not is_possible(decls, kind, play):
        raise BadForm("the moves are not possible")
    if len(play) > MAX_SHOWN:
        raise TooLarge(f"the play has more than {MAX_SHOWN} moves")


def check_declared(decls, kind):
    """Raises NotAllowed if something is not the declarations or the kind of a piece."""
    if not are_decls(decls) or kind not in KINDS:
        raise NotAllowed("these are no declarations, or this is no kind")


def context_of(decls, kind, play):
    """Returns a context that is faulted just for the pieces that have a play, or make a fault on the way."""
    check_declared(decls, kind)
    check_hole_is_free(decls)
    check_shown(decls, kind, play)
    return guiding_context(decls, kind, play)


def witness(first, second):
    """Returns a context that is faulted with one of two pieces and never ends with the other one."""
    check_comparable(first, second)
    decls, kind, _ = first
    check_hole_is_free(decls)
    play, is_first = difference(first, second)
    if len(play) > MAX_SHOWN:
        raise TooLarge(f"the play has more than {MAX_SHOWN} moves")
    # A fault on the way counts as having the play, so the fault itself must be what is looked for.
    faulting = play[:-1] + [FAULT]
    if is_play(second if is_first else first, faulting):
        return context_of(decls, kind, faulting)
    return context_of(decls, kind, play)
