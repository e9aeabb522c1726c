"""Nodes by their numbers, and terms that match the sides of rules ([6.1], [6.3], [6.4])."""

from doppelganger.errors import Missing, NotAllowed
from doppelganger.names import DECLARED, USES, bound_nodes, is_use_of_declared
from doppelganger.rebuild import head_of, with_others
from doppelganger.terms import kids, nodes


def nodes_by_number(term):
    """Returns all nodes of a term, in order."""
    # The kind decides nothing here but which kinds the nodes are told to have.
    return [node for _, node, _ in nodes(term, "com")]


def count_nodes(term):
    """Returns the number of nodes of a term."""
    return len(nodes_by_number(term))


def term_at(term, number):
    """Returns the term of the node with a number."""
    found = nodes_by_number(term)
    if not 0 <= number < len(found):
        raise NotAllowed(f"there is no node {number}")
    return found[number]


def replace_at(term, number, other):
    """Returns a term with another one in the place of the node with a number."""
    if not 0 <= number < count_nodes(term):
        raise NotAllowed(f"there is no node {number}")
    return with_others(term, {number: other})


class Side:
    """A side of a rule, with what is needed to match it and to fill it again and again.

    `uses` has the name of the unknown for the number of each node that uses one. For each unknown
    `times` has the number of its uses, and `bound` the names that are bound around some of them, as
    keys of a dict.
    """

    def __init__(self, piece):
        found = bound_nodes(piece)
        self.term = piece[2]
        self.many = len(found)
        self.uses = {}
        self.times = {}
        self.bound = {}
        for number, (_, term, bindings) in enumerate(found):
            if is_use_of_declared(term, bindings):
                self.uses[number] = term[1]
                self.times[term[1]] = self.times.get(term[1], 0) + 1
                names = self.bound.setdefault(term[1], {})
                for name, binding in bindings.items():
                    if binding[0] != DECLARED:
                        names[name] = True


def free_names(term):
    """Returns the names that are free in a term, each as often as a node uses it."""
    used = [(node, bindings) for _, node, bindings in bound_nodes(((), "com", term)) if node[0] in USES]
    return [node[1] for node, bindings in used if node[1] not in bindings]


def terms_for(side, term):
    """Returns a dict from the unknowns of a side to what stands for them in a term, or None if it is not alike."""
    found = {}
    waiting = [(side.term, term)]
    number = 0
    while waiting:
        pattern, node = waiting.pop()
        if number in side.uses:
            if found.setdefault(side.uses[number], node) != node:
                return None
        elif head_of(pattern) != head_of(node):
            return None
        else:
            pairs = [(part, other) for (_, part), (_, other) in zip(kids(pattern, "com"), kids(node, "com"))]
            waiting.extend(pairs[::-1])
        number += 1
    return found


def match_side(side, other, term):
    """Returns what stands for the unknowns of a side, or None if a term does not match it."""
    found = terms_for(side, term)
    if found is None:
        return None
    for unknown, put_in in found.items():
        bound = {**side.bound[unknown], **other.bound.get(unknown, {})}
        if bound and any([name in bound for name in free_names(put_in)]):
            return None
    return found


def growth(side, other, found):
    """Returns how many nodes more another side has than a side when both are filled alike."""
    more = other.many - side.many
    for name, term in found.items():
        times = other.times.get(name, 0) - side.times[name]
        # To count the nodes only where it matters keeps rules cheap that match whatever there is.
        if times != 0:
            more += times * (count_nodes(term) - 1)
    return more


def fill_side(side, found):
    """Returns the term of a side with the terms of a dict in the place of its unknowns."""
    for name in side.times:
        if name not in found:
            raise Missing(f"nothing stands for {name}")
    return with_others(side.term, {number: found[name] for number, name in side.uses.items()})


def match(side, other, term):
    """Returns what stands for the unknowns that a side of a rule uses, or None if a term does not match it."""
    return match_side(Side(side), Side(other), term)


def fill_unknowns(side, found):
    """Returns the term of a side with the terms of a dict in the place of its unknowns."""
    return fill_side(Side(side), found)
