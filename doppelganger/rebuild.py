"""Terms that are made from other terms, with something else in the place of some nodes."""

from doppelganger.terms import FORMS, KINDS, kids, nodes, row


def is_part(field):
    """Tells whether a field of a form has a part."""
    return field in KINDS or field in ("same", "body")


def head_of(term):
    """Returns what a node has beside its parts, as a tuple."""
    made = [term[0]]
    _, fields = FORMS[term[0]]
    for field, value in zip(fields, term[1:]):
        if field == "args":
            made.append(tuple([kind for kind, _ in value]))
        elif not is_part(field):
            made.append(value)
    return tuple(made)


def refilled(term, parts):
    """Returns a node with other parts, just as they are given."""
    made = [term[0]]
    taken = 0
    _, fields = FORMS[term[0]]
    for field, value in zip(fields, term[1:]):
        if field == "args":
            made.append(tuple([(arg[0], part) for arg, part in zip(value, parts)]))
        elif is_part(field):
            made.append(parts[taken])
            taken += 1
        else:
            made.append(value)
    return tuple(made)


def with_parts(term, parts):
    """Returns a node with other parts; a row that arises is grouped from the left."""
    if term[0] == "seq":
        return row(parts[0], parts[1])
    return refilled(term, parts)


def with_others(term, others):
    """Returns a term with the terms of the dict in the place of the nodes with these numbers.

    The nodes are numbered from 0 on. What stands in a node that is replaced is dropped.
    """
    # The kind decides nothing here but which kinds the nodes are told to have.
    found = [node for _, node, _ in nodes(term, "com")]
    built = []
    # Backwards, the parts of a node come before the node itself, the first one as the last.
    for number in reversed(range(len(found))):
        node = found[number]
        parts = [built.pop() for _ in kids(node, "com")]
        built.append(others[number] if number in others else with_parts(node, parts))
    return built[0]
