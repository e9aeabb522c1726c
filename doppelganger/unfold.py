"""Unfolded terms, and the border of the pieces whose plays tell everything ([4.4], [4.7])."""

from doppelganger.errors import TooLarge
from doppelganger.trees import MAX_UNFOLDED, unfolded


class Node:
    """A node of an unfolded term.

    `above` is the number of the node of which it is a part, -1 for the first one, and `place` its
    place among the parts of that. `variables` is the number of variables that are open at the
    node, and `saved` the number of left operands and earlier `val` arguments that wait there.
    `data` is the place of the variable among the open ones for `read` and `set`, the number of the
    node of the block for `exit`, the declaration for `call`, and the number for `num`.
    """

    def __init__(self, word, data, above, place):
        self.word = word
        self.data = data
        self.above = above
        self.place = place
        self.parts = []
        self.variables = 0
        self.saved = 0


def tree_of_piece(piece):
    """Returns the unfolded term of a piece as a tree."""
    tree = unfolded(piece)
    if tree[3] > MAX_UNFOLDED:
        raise TooLarge(f"the unfolded term has more than {MAX_UNFOLDED} nodes")
    return tree


def values_before(decl, at):
    """Returns how many arguments of the type `val` stand before an argument."""
    return len([of_type for of_type in decl[1][:at] if of_type == "val"])


def saved_more(above, place):
    """Returns how many values wait at a part of a node, more than at the node."""
    if above.word in ("add", "sub", "mul", "equal", "less"):
        return place
    if above.word == "call" and above.data[1][place] == "val":
        return values_before(above.data, place)
    return 0


def data_of(word, data, scope):
    """Returns the data of a node; the scope has the places of variables and the nodes of blocks."""
    return scope[data] if word in ("read", "set", "exit") else data


def inner_scope(tree, place, node, number, scope):
    """Returns the scope of a part of a node."""
    if tree[0] == "block":
        return {**scope, tree[1]: number}
    if tree[0] == "new" and place == 1:
        return {**scope, tree[1]: node.variables}
    return scope


def nodes_of(piece):
    """Returns the nodes of the unfolded term of a piece, each one before its parts."""
    found = []
    waiting = [(tree_of_piece(piece), -1, 0, {})]
    while waiting:
        tree, above, place, scope = waiting.pop()
        number = len(found)
        node = Node(tree[0], data_of(tree[0], tree[1], scope), above, place)
        found.append(node)
        if above >= 0:
            home = found[above]
            home.parts.append(number)
            node.variables = home.variables + (1 if home.word == "new" and place == 1 else 0)
            node.saved = home.saved + saved_more(home, place)
        for at in reversed(range(len(tree[2]))):
            waiting.append((tree[2][at], number, at, inner_scope(tree, at, node, number, scope)))
    return found


def arguments_around(found, start, stop):
    """Returns the arguments by name that a node stands in, up to another node around it or -1.

    They are the keys of a dict: pairs of the name that is called and the place of the argument.
    """
    names = {}
    number = start
    while number != stop:
        node = found[number]
        if node.above >= 0:
            above = found[node.above]
            if above.word == "call" and above.data[1][node.place] != "val":
                names[(above.data[0], node.place)] = True
        number = node.above
    return names


def is_beyond_border(found):
    """Tells whether an exit leaves an argument for a block within the same argument of another call."""
    for number, node in enumerate(found):
        if node.word == "exit":
            left = arguments_around(found, number, node.data)
            outside = arguments_around(found, node.data, -1)
            if any([name in outside for name in left]):
                return True
    return False


def unfolded_size(piece):
    """Returns the number of nodes of the unfolded term of a piece."""
    return tree_of_piece(piece)[3]


def is_beyond(piece):
    """Tells whether a piece is beyond the border."""
    return is_beyond_border(nodes_of(piece))
