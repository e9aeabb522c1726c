"""Names and types: what binds a name, and whether its use fits that ([1.6] to [1.8])."""

from doppelganger.errors import BadKind, BadName, NotAllowed, TooLarge
from doppelganger.terms import is_shaped, is_too_large, kids

# What binds a name is told by a tuple: one of these two, or a triple of one of the words below,
# the types of the arguments and the result. A parameter that can be called is a procedure here.
VARIABLE = ("variable",)
LABEL = ("label",)
DECLARED = "declared"
PROCEDURE = "procedure"

USES = ("read", "set", "call", "exit")


def bindings_of(decls):
    """Returns a dict from the declared names to what binds them."""
    return {name: (DECLARED, types, result) for name, types, result in decls}


def binding_of_param(of_type):
    """Returns what a parameter of the type binds its name to."""
    if of_type == "val":
        return VARIABLE
    return (PROCEDURE, (), of_type)


def bindings_of_proc(term, bindings):
    """Returns the bindings in the body and in the block of a procedure."""
    name, params, result = term[1:4]
    in_body = dict(bindings)
    for param, of_type in params:
        in_body[param] = binding_of_param(of_type)
    types = tuple([of_type for _, of_type in params])
    return [in_body, {**bindings, name: (PROCEDURE, types, result)}]


def bindings_of_parts(term, bindings, many):
    """Returns the bindings in each of the parts of a node, of which there are so many."""
    if term[0] == "new":
        return [bindings, {**bindings, term[1]: VARIABLE}]
    if term[0] == "block":
        return [{**bindings, term[1]: LABEL}]
    if term[0] == "proc":
        return bindings_of_proc(term, bindings)
    return [bindings] * many


def bound_nodes(piece):
    """Returns all nodes of a piece as triples (kind, term, bindings), in order."""
    decls, kind, term = piece
    found = []
    waiting = [(kind, term, bindings_of(decls))]
    while waiting:
        node_kind, node, bindings = waiting.pop()
        found.append((node_kind, node, bindings))
        parts = kids(node, node_kind)
        inner = bindings_of_parts(node, bindings, len(parts))
        for at in reversed(range(len(parts))):
            part_kind, part = parts[at]
            waiting.append((part_kind, part, inner[at]))
    return found


def fits_type(arg, of_type):
    """Tells whether an argument is of the kind that a type needs."""
    needed = "com" if of_type == "com" else "exp"
    return arg[0] == needed


def fits_call(kind, args, binding):
    """Tells whether a call of a kind with these arguments fits what binds its name."""
    if binding == VARIABLE or binding == LABEL:
        return False
    _, types, result = binding
    if result != kind or len(args) != len(types):
        return False
    return all([fits_type(arg, of_type) for arg, of_type in zip(args, types)])


def fits_binding(kind, term, binding):
    """Tells whether a node of a kind that uses a name fits what binds the name."""
    if term[0] == "call":
        return fits_call(kind, term[2], binding)
    if term[0] == "exit":
        return binding == LABEL
    return binding == VARIABLE


def check_use(kind, term, bindings):
    """Raises an error if a node uses a name that is not bound, or that does not fit."""
    if term[0] not in USES:
        return
    name = term[1]
    if name not in bindings:
        raise BadName(f"{name} is not bound")
    if not fits_binding(kind, term, bindings[name]):
        raise BadKind(f"{name} is bound by something that does not fit {term[0]}")


def check_piece(piece):
    """Raises an error if a piece is not sound."""
    if not is_shaped(piece):
        raise NotAllowed("not shaped as a piece")
    for kind, term, bindings in bound_nodes(piece):
        check_use(kind, term, bindings)
    if is_too_large(piece[2], piece[1]):
        raise TooLarge("the term has too many nodes or levels")


def is_use_of_declared(term, bindings):
    """Tells whether a node uses a name that a declaration binds there."""
    return term[0] in USES and term[1] in bindings and bindings[term[1]][0] == DECLARED


def used_names(piece):
    """Returns the declared names that some node uses, in ascending order."""
    return sorted({term[1] for _, term, bindings in bound_nodes(piece) if is_use_of_declared(term, bindings)})
