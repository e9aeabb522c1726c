"""Contexts: pieces with a hole, into which other pieces are put ([1.12])."""

from doppelganger.errors import BadKind, BadName, Missing, TooLarge
from doppelganger.names import DECLARED, bound_nodes
from doppelganger.rebuild import with_others
from doppelganger.terms import is_too_large

HOLE = "hole"


def check_hole(context, kind):
    """Raises an error if a context has no hole, or one of another kind."""
    for name, types, result in context[0]:
        if name == HOLE and types == ():
            if result != kind:
                raise BadKind(f"the hole is not of the kind {kind}")
            return
    raise Missing("the context declares no hole without types")


def holes_of(context):
    """Returns the calls of the declared hole as pairs (number of the node, bindings), in order."""
    found = []
    for number, (_, term, bindings) in enumerate(bound_nodes(context)):
        if term[:2] == ("call", HOLE) and bindings[HOLE][0] == DECLARED:
            found.append((number, bindings))
    return found


def check_decl(decl, bindings):
    """Raises an error if a declared name of a piece is not bound at a hole, or does not fit there."""
    name, types, result = decl
    # At a hole its name is always bound by the declaration, which does not count.
    if name == HOLE or name not in bindings:
        raise BadName(f"{name} is not bound at a hole")
    # A parameter that can be called is bound like a procedure without types.
    if bindings[name][1:] != (types, result):
        raise BadKind(f"{name} is bound by something else at a hole")


def fill(context, piece):
    """Returns the context with the term of the piece in the place of its holes."""
    decls, kind, term = piece
    check_hole(context, kind)
    found = holes_of(context)
    for _, bindings in found:
        for decl in decls:
            check_decl(decl, bindings)
    filled = with_others(context[2], {number: term for number, _ in found})
    if is_too_large(filled, context[1]):
        raise TooLarge("the filled context has too many nodes or levels")
    return (tuple([decl for decl in context[0] if decl[0] != HOLE]), context[1], filled)
