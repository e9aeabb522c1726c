"""The rules of [1.5] to [1.8] and [1.12], written down once more, as plainly as possible and without care for depth."""

from doppelganger.errors import BadKind, BadName, Missing, TooLarge
from helpers import row_of


def parts(term, kind, scope):
    """The parts of a term with their kinds and with the names that are bound there."""
    word = term[0]
    if word in ("add", "sub", "mul", "equal", "less"):
        return [("exp", term[1], scope), ("exp", term[2], scope)]
    if word == "seq":
        return [("com", term[1], scope), ("com", term[2], scope)]
    if word == "set":
        return [("exp", term[2], scope)]
    if word == "while":
        return [("exp", term[1], scope), ("com", term[2], scope)]
    if word == "do":
        return [("com", term[1], scope), ("exp", term[2], scope)]
    if word == "if":
        return [("exp", term[1], scope), (kind, term[2], scope), (kind, term[3], scope)]
    if word == "block":
        return [("com", term[2], {**scope, term[1]: ("label",)})]
    if word == "new":
        return [("exp", term[2], scope), (kind, term[3], {**scope, term[1]: ("variable",)})]
    if word == "call":
        return [(each, arg, scope) for each, arg in term[2]]
    if word == "proc":
        params = {name: ("variable",) if each == "val" else ("call", [], each) for name, each in term[2]}
        own = ("call", [each for _, each in term[2]], term[3])
        return [(term[3], term[4], {**scope, **params}), (kind, term[5], {**scope, term[1]: own})]
    return []


def fault_of(term, kind, scope):
    """The class of the first error of the names in a term, or None."""
    needed = {"read": ("variable",), "set": ("variable",), "exit": ("label",)}
    if term[0] in ("read", "set", "exit", "call"):
        if term[1] not in scope:
            return BadName
        if term[0] == "call":
            kinds = [each for each, _ in term[2]]
            binding = scope[term[1]]
            types = ["com" if each == "com" else "exp" for each in binding[1]] if binding[0] == "call" else None
            if kinds != types or binding[2] != kind:
                return BadKind
        elif scope[term[1]] != needed[term[0]]:
            return BadKind
    for part_kind, part, inner in parts(term, kind, scope):
        found = fault_of(part, part_kind, inner)
        if found:
            return found
    return None


def levels(term, kind, level=1):
    """The levels of all nodes, in order."""
    found = [level]
    for at, (part_kind, part, _) in enumerate(parts(term, kind, {})):
        beside = term[0] == "seq" and at == 0 and part[0] == "seq"
        found.extend(levels(part, part_kind, level if beside else level + 1))
    return found


def error_of_piece(piece):
    """The class of the error that `check_piece` raises for a piece that is shaped as one, or None."""
    decls, kind, term = piece
    scope = {name: ("call", list(types), result) for name, types, result in decls}
    return fault_of(term, kind, scope) or (TooLarge if error_of_size(term, kind) else None)


def error_of_size(term, kind):
    """Whether a term is too large."""
    found = levels(term, kind)
    return len(found) > 400 or max(found) > 30


def with_parts(term, made):
    """A term with other parts, which always stand last in it; rows are grouped from the left."""
    if term[0] == "seq":
        return row_of(steps(made[0]) + steps(made[1]))
    if term[0] == "call":
        return ("call", term[1], tuple((kind, part) for (kind, _), part in zip(term[2], made)))
    return term[:len(term) - len(made)] + tuple(made)


def steps(command):
    """The steps of a row, in order."""
    return steps(command[1]) + [command[2]] if command[0] == "seq" else [command]


def is_hole(term, scope):
    """Whether a node is a call of the declared hole."""
    return term[:2] == ("call", "hole") and scope["hole"] == ("hole",)


def holes(term, kind, scope):
    """What is bound at each call of the hole, in order."""
    if is_hole(term, scope):
        return [scope]
    return [found for part_kind, part, inner in parts(term, kind, scope) for found in holes(part, part_kind, inner)]


def put_in(term, kind, scope, piece_term):
    """A term with another one in the place of the calls of the hole."""
    if is_hole(term, scope):
        return piece_term
    made = [put_in(part, part_kind, inner, piece_term) for part_kind, part, inner in parts(term, kind, scope)]
    return with_parts(term, made)


def filled(context, piece):
    """What `fill` returns, or the class of the error that it raises ([1.12])."""
    decls, kind, term = context
    result = {name: result for name, types, result in decls if (name, types) == ("hole", ())}.get("hole")
    if result != piece[1]:
        return Missing if result is None else BadKind
    scope = {name: ("call", list(types), result) for name, types, result in decls}
    scope["hole"] = ("hole",)
    for found in holes(term, kind, scope):
        for name, types, result in piece[0]:
            if found.get(name, ("hole",)) == ("hole",):
                return BadName
            if found[name] != ("call", list(types), result):
                return BadKind
    made = put_in(term, kind, scope, piece[2])
    if error_of_size(made, kind):
        return TooLarge
    return (tuple(decl for decl in decls if decl[0] != "hole"), kind, made)
