"""Terms and pieces: their shape, their nodes and levels ([1.1], [1.3] to [1.5])."""

WIDTH = 3
MAX_NODES = 400
MAX_LEVEL = 30
MAX_DECLS = 3
MAX_ARGS = 2
MAX_NAME = 4

KINDS = ("com", "exp")
TYPES = ("com", "exp", "val")
RESERVED = ("skip", "stop", "if", "new", "proc", "exit", "do", "com", "exp", "val")

# For each first word the kind of its terms, and what follows it in the tuple: "com" and "exp"
# are terms of this kind, "same" is one of the kind of the whole, "body" one of the result's kind.
FORMS = {
    "skip": ("com", ()),
    "seq": ("com", ("com", "com")),
    "set": ("com", ("name", "exp")),
    "while": ("com", ("exp", "com")),
    "block": ("com", ("name", "com")),
    "num": ("exp", ("number",)),
    "read": ("exp", ("name",)),
    "add": ("exp", ("exp", "exp")),
    "sub": ("exp", ("exp", "exp")),
    "mul": ("exp", ("exp", "exp")),
    "equal": ("exp", ("exp", "exp")),
    "less": ("exp", ("exp", "exp")),
    "do": ("exp", ("com", "exp")),
    "stop": ("both", ()),
    "fault": ("both", ()),
    "exit": ("both", ("name",)),
    "if": ("both", ("exp", "same", "same")),
    "new": ("both", ("name", "exp", "same")),
    "call": ("both", ("name", "args")),
    "proc": ("both", ("name", "params", "result", "body", "same")),
}


def is_letter(sign):
    """Tells whether a character is a small letter."""
    return "a" <= sign <= "z"


def is_name(text):
    """Tells whether a text is a name."""
    if not 1 <= len(text) <= MAX_NAME or text in RESERVED:
        return False
    return all([is_letter(sign) for sign in text])


def kids(term, kind):
    """Returns the parts of a node as pairs (kind, term), in order."""
    found = []
    _, fields = FORMS[term[0]]
    for field, part in zip(fields, term[1:]):
        if field in KINDS:
            found.append((field, part))
        elif field == "same":
            found.append((kind, part))
        elif field == "body":
            found.append((term[3], part))
        elif field == "args":
            found.extend(part)
    return found


def levels_of_parts(term, level, many):
    """Returns the levels of the parts of a node, of which there are so many."""
    levels = [level + 1] * many
    if term[0] == "seq" and term[1][0] == "seq":
        levels[0] = level
    return levels


def nodes(term, kind):
    """Returns all nodes of a term as triples (kind, term, level), in order."""
    found = []
    waiting = [(kind, term, 1)]
    while waiting:
        node_kind, node, level = waiting.pop()
        found.append((node_kind, node, level))
        parts = kids(node, node_kind)
        levels = levels_of_parts(node, level, len(parts))
        for at in reversed(range(len(parts))):
            part_kind, part = parts[at]
            waiting.append((part_kind, part, levels[at]))
    return found


def is_too_large(term, kind):
    """Tells whether a term has too many nodes, or one with too high a level."""
    found = nodes(term, kind)
    return len(found) > MAX_NODES or max([level for _, _, level in found]) > MAX_LEVEL


def steps_of(command):
    """Returns the steps of a row, in order; a command that is no row is its only step."""
    last_ones = []
    rest = command
    while rest[0] == "seq":
        last_ones.append(rest[2])
        rest = rest[1]
    return [rest] + last_ones[::-1]


def row(first, second):
    """Returns the row of the steps of two commands, grouped from the left."""
    whole = first
    for step in steps_of(second):
        whole = ("seq", whole, step)
    return whole


def is_tuple_of(value, size):
    """Tells whether a value is a tuple with so many items."""
    return isinstance(value, tuple) and len(value) == size


def is_short_tuple(value, most):
    """Tells whether a value is a tuple with at most so many items."""
    return isinstance(value, tuple) and len(value) <= most


def is_name_value(value):
    """Tells whether a value of any kind is a name."""
    return isinstance(value, str) and is_name(value)


def are_types(value):
    """Tells whether a value is a tuple of types."""
    return is_short_tuple(value, MAX_ARGS) and all([item in TYPES for item in value])


def is_param(value):
    """Tells whether a value is a pair of a name and its type."""
    return is_tuple_of(value, 2) and is_name_value(value[0]) and value[1] in TYPES


def are_params(value):
    """Tells whether a value is a tuple of parameters with different names."""
    if not is_short_tuple(value, MAX_ARGS) or not all([is_param(item) for item in value]):
        return False
    return len(set([name for name, _ in value])) == len(value)


def is_arg(value):
    """Tells whether a value is a pair of a kind and a tuple, which is not looked into."""
    return is_tuple_of(value, 2) and value[0] in KINDS and isinstance(value[1], tuple)


def are_args(value):
    """Tells whether a value is a tuple of arguments, whose terms are not looked into."""
    return is_short_tuple(value, MAX_ARGS) and all([is_arg(item) for item in value])


def fits_field(value, field):
    """Tells whether a value may stand in a field of a term; terms are not looked into."""
    if field == "name":
        return is_name_value(value)
    if field == "number":
        return isinstance(value, int) and 0 <= value < WIDTH
    if field == "result":
        return value in KINDS
    if field == "params":
        return are_params(value)
    if field == "args":
        return are_args(value)
    return isinstance(value, tuple)


def is_node(term, kind):
    """Tells whether a tuple has the form of a term of the kind; its parts are not looked into."""
    # The first item is asked for its kind first, as a nested tuple must not become a key.
    if not term or not isinstance(term[0], str) or term[0] not in FORMS:
        return False
    home, fields = FORMS[term[0]]
    if home not in (kind, "both") or len(term) != len(fields) + 1:
        return False
    if not all([fits_field(value, field) for value, field in zip(term[1:], fields)]):
        return False
    return term[0] != "seq" or term[2][:1] != ("seq",)


def is_term(term, kind):
    """Tells whether a tuple is a term of the kind."""
    waiting = [(kind, term)]
    while waiting:
        node_kind, node = waiting.pop()
        if not is_node(node, node_kind):
            return False
        waiting.extend(kids(node, node_kind))
    return True


def is_decl(value):
    """Tells whether a value is a declaration."""
    return is_tuple_of(value, 3) and is_name_value(value[0]) and are_types(value[1]) and value[2] in KINDS


def are_decls(value):
    """Tells whether a value is a tuple of declarations, in ascending order of their names."""
    if not is_short_tuple(value, MAX_DECLS) or not all([is_decl(item) for item in value]):
        return False
    return all([value[at][0] < value[at + 1][0] for at in range(len(value) - 1)])


def is_shaped(piece):
    """Tells whether a tuple is shaped as a piece."""
    if not is_tuple_of(piece, 3):
        return False
    decls, kind, term = piece
    return are_decls(decls) and kind in KINDS and isinstance(term, tuple) and is_term(term, kind)
