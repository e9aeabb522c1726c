"""Unfolded terms as trees ([4.4]).

A tree is a tuple (word, data, parts, size). The words are those of terms, but for `proc`, and for
`seq`: all steps of a row are the parts of one tree with the word `row`. A row has as many nodes
as if each of its steps but the first one came with a `seq`. Data is what is not a part: a
number, the declaration of a call, or the number of a binder for `read`, `set`, `new`, `block` and
`exit`. Each binder of the piece has a number of its own. As no procedure calls itself, a tree that
is put into another one never comes to stand within a copy of a binder that it means further out.

A parameter that is called is a tree without parts, with the word `param`, until an argument is put
in its place.
"""

from doppelganger.terms import steps_of

MAX_UNFOLDED = 400

# Stands for each tree with more than MAX_UNFOLDED nodes, so that nothing larger is ever made.
LARGE = ("large", 0, (), 401)


def tree_of(word, data, parts):
    """Returns a tree with these parts."""
    size = 1 + sum([part[3] for part in parts])
    return LARGE if size > MAX_UNFOLDED else (word, data, parts, size)


def row_tree(trees):
    """Returns the row of some trees, of which each may be a row itself."""
    found = []
    for tree in trees:
        found.extend(tree[2] if tree[0] == "row" else [tree])
    size = len(found) - 1 + sum([step[3] for step in found])
    return LARGE if size > MAX_UNFOLDED else ("row", 0, tuple(found), size)


def trees_in(tree):
    """Returns a tree and all trees within it, each one before those within it."""
    found = []
    waiting = [tree]
    while waiting:
        node = waiting.pop()
        found.append(node)
        waiting.extend(node[2][::-1])
    return found


def with_arguments(tree, given):
    """Returns a tree with the trees of a dict in the place of the parameters with these numbers."""
    if not given:
        return tree
    built = []
    # Backwards, the parts of a tree come before the tree itself, the first one as the last.
    for word, data, parts, size in reversed(trees_in(tree)):
        made = tuple([built.pop() for _ in parts])
        if word == "param":
            built.append(given.get(data, (word, data, parts, size)))
        elif word == "row":
            built.append(row_tree(made))
        elif made:
            built.append(tree_of(word, data, made))
        else:
            built.append((word, data, parts, size))
    return built[0]


class Unfolder:
    """Unfolds the terms of one piece.

    A scope tells what the names mean: the number of a variable or label; the tree of a parameter;
    ("declared", declaration); or ("procedure", params, tree of the body), where params are pairs
    (type, number). A body is unfolded once, where its procedure stands.
    """

    def __init__(self):
        self.binders = 0

    def next_number(self):
        """Returns a number for another binder."""
        self.binders += 1
        return self.binders

    def unfold(self, term, scope):
        """Returns the tree of a term."""
        word = term[0]
        if word in UNFOLDINGS:
            unfold_form = UNFOLDINGS[word]
            return unfold_form(self, term, scope)
        return tree_of(word, 0, tuple([self.unfold(part, scope) for part in term[1:]]))


def unfold_row(unfolder, term, scope):
    """A row, whose steps may be rows when they are unfolded."""
    return row_tree([unfolder.unfold(step, scope) for step in steps_of(term)])


def unfold_number(unfolder, term, scope):
    """A number."""
    return tree_of("num", term[1], ())


def unfold_use(unfolder, term, scope):
    """A variable that is read, or an exit."""
    return tree_of(term[0], scope[term[1]], ())


def unfold_set(unfolder, term, scope):
    """A variable that gets a value."""
    return tree_of("set", scope[term[1]], (unfolder.unfold(term[2], scope),))


def unfold_new(unfolder, term, scope):
    """A variable, which is bound in the last part."""
    _, name, value, inside = term
    number = unfolder.next_number()
    return tree_of("new", number, (unfolder.unfold(value, scope), unfolder.unfold(inside, {**scope, name: number})))


def unfold_block(unfolder, term, scope):
    """A label, which is bound in the command."""
    number = unfolder.next_number()
    return tree_of("block", number, (unfolder.unfold(term[2], {**scope, term[1]: number}),))


def unfold_proc(unfolder, term, scope):
    """The block of a procedure, whose calls are replaced."""
    _, name, params, _, body, block = term
    inner = dict(scope)
    numbered = []
    for param, of_type in params:
        number = unfolder.next_number()
        numbered.append((of_type, number))
        inner[param] = number if of_type == "val" else tree_of("param", number, ())
    made = unfolder.unfold(body, inner)
    return unfolder.unfold(block, {**scope, name: ("procedure", tuple(numbered), made)})


def unfold_call(unfolder, term, scope):
    """A call of a declared name, of a parameter or of a procedure, of which the body is left."""
    binding = scope[term[1]]
    if binding[0] == "param":
        return binding
    args = [unfolder.unfold(arg, scope) for _, arg in term[2]]
    if binding[0] == "declared":
        return tree_of("call", binding[1], tuple(args))
    _, params, body = binding
    pairs = list(zip(params, args))
    made = with_arguments(body, {number: arg for (of_type, number), arg in pairs if of_type != "val"})
    for (of_type, number), arg in reversed(pairs):
        if of_type == "val":
            made = tree_of("new", number, (arg, made))
    return made


UNFOLDINGS = {
    "seq": unfold_row,
    "num": unfold_number,
    "read": unfold_use,
    "exit": unfold_use,
    "set": unfold_set,
    "new": unfold_new,
    "block": unfold_block,
    "proc": unfold_proc,
    "call": unfold_call,
}


def unfolded(piece):
    """Returns the tree of the unfolded term of a piece; it is LARGE if it has too many nodes."""
    decls, _, term = piece
    return Unfolder().unfold(term, {decl[0]: ("declared", decl) for decl in decls})
