"""Writing pieces as plain texts ([1.11])."""

from doppelganger.terms import kids
from doppelganger.words import BRACKETS, RANKS, SIGNS


def list_text(items):
    """Returns texts as a list in parentheses."""
    return "(" + ", ".join(items) + ")"


def decl_text(decl):
    """Returns the text of a declaration."""
    name, types, result = decl
    listed = list_text(types) if types else ""
    return f"{name}{listed} : {result}"


def head_text(term):
    """Returns the text of the head of a procedure."""
    name, params, result = term[1:4]
    listed = list_text([f"{param} : {of_type}" for param, of_type in params])
    return f"proc {name}{listed} : {result}"


def operand_parts(term, least):
    """Returns the parts of an operand, in parentheses if it is an operator of less than the rank."""
    if term[0] in RANKS and RANKS[term[0]] < least:
        return ["(", ("exp", term), ")"]
    return [("exp", term)]


def operation_parts(term):
    """Returns the parts of an operator with its operands."""
    word, left, right = term
    rank = RANKS[word]
    # Comparisons do not follow each other, so not even a left operand may be one.
    least_left = max(rank, 1)
    return operand_parts(left, least_left) + [f" {SIGNS[word]} "] + operand_parts(right, rank + 1)


def enclosed_parts(kind, term):
    """Returns the parts of a command in braces or an expression in brackets."""
    opening, closing = BRACKETS[kind]
    return [opening + " ", (kind, term), " " + closing]


def arg_parts(kind, arg):
    """Returns the parts of an argument."""
    if kind == "com":
        return enclosed_parts(kind, arg)
    return [(kind, arg)]


def call_parts(term):
    """Returns the parts of a call."""
    _, name, args = term
    if not args:
        return [name]
    listed = []
    for kind, arg in args:
        listed.append(", ")
        listed.extend(arg_parts(kind, arg))
    return [name, "("] + listed[1:] + [")"]


def front_text(term):
    """Returns what stands in front of the terms within a form of several words."""
    word = term[0]
    if word == "proc":
        return head_text(term)
    if word == "new":
        return f"new {term[1]} ="
    if word in ("block", "exit"):
        return f"{word} {term[1]}"
    return word


def form_parts(kind, term):
    """Returns the parts of a form that begins with a word, and encloses the terms within it."""
    parts = [front_text(term)]
    within = kids(term, kind)
    if term[0] in ("if", "while", "new"):
        parts.extend([" ", within[0]])
        within = within[1:]
    for part_kind, part in within:
        parts.append(" ")
        parts.extend(enclosed_parts(part_kind, part))
    return parts


def parts_of(kind, term):
    """Returns of what the text of a term consists: texts, and pairs (kind, term), in order."""
    word = term[0]
    if word in SIGNS:
        return operation_parts(term)
    if word in ("num", "read"):
        return [str(term[1])]
    if word == "seq":
        return [("com", term[1]), "; ", ("com", term[2])]
    if word == "set":
        return [f"{term[1]} := ", ("exp", term[2])]
    if word == "call":
        return call_parts(term)
    return form_parts(kind, term)


def term_text(term, kind):
    """Returns the text of a term."""
    written = []
    waiting = [(kind, term)]
    while waiting:
        part = waiting.pop()
        if isinstance(part, str):
            written.append(part)
        else:
            part_kind, inner = part
            waiting.extend(parts_of(part_kind, inner)[::-1])
    return "".join(written)


def piece_text(piece):
    """Returns the plain text of a piece."""
    decls, kind, term = piece
    front = ", ".join([decl_text(decl) for decl in decls])
    if decls:
        front = front + " "
    return f"{front}|- {kind} : {term_text(term, kind)}"
