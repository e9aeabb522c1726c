"""Reading pieces from texts ([1.9], [1.10])."""

from doppelganger.errors import BadForm
from doppelganger.names import check_piece
from doppelganger.terms import KINDS, MAX_ARGS, MAX_DECLS, TYPES, WIDTH, is_name
from doppelganger.words import BRACKETS, RANKS, operator_of, tokens_of

MAX_TEXT = 6000
MAX_NESTED = 70

# The first words of the forms that commands and expressions have in common.
SHARED = ("stop", "fault", "exit", "if", "new", "proc")


def check_name(token):
    """Raises BadForm if a token is not a name."""
    if not is_name(token):
        raise BadForm(f"{token} is not a name")


def check_different(pairs):
    """Raises BadForm if two of the tuples begin with the same name."""
    names = [pair[0] for pair in pairs]
    if len(set(names)) != len(names):
        raise BadForm("a name stands twice in a list")


def scope_of_body(scope, params):
    """Returns the scope in the body of a procedure with these parameters."""
    found = dict(scope)
    for name, of_type in params:
        found[name] = of_type == "val"
    return found


def grouped(parts, rank):
    """Returns operands, and operators between them, with those of a rank grouped from the left."""
    found = parts[:1]
    for at in range(1, len(parts), 2):
        if RANKS[parts[at]] == rank:
            found[-1] = (parts[at], found[-1], parts[at + 1])
        else:
            found.extend(parts[at:at + 2])
    return found


def expression_of(parts):
    """Returns the expression of operands and the operators between them."""
    sums = grouped(grouped(parts, 2), 1)
    # Between sums only comparisons are left, of which an expression has at most one.
    if len(sums) > 3:
        raise BadForm("comparisons do not follow each other")
    return grouped(sums, 0)[0]


class Reader:
    """Goes through a text and reads what the grammar describes.

    A scope is a dict from the names that are bound inside the term to whether such a name alone
    is a `read`; names that are not in it are declared or not bound. It is never modified.
    """

    def __init__(self, text):
        self.tokens = tokens_of(text)
        self.place = 0
        self.nested = 0

    def ahead(self):
        """Returns the next token, or the empty text at the end."""
        if self.place == len(self.tokens):
            return ""
        return self.tokens[self.place]

    def take(self):
        """Returns the next token and goes on behind it."""
        token = self.ahead()
        if token == "":
            raise BadForm("the text breaks off")
        self.place += 1
        return token

    def takes(self, token):
        """Goes on behind the token if it is the next one, and tells whether it was."""
        if self.ahead() != token:
            return False
        self.place += 1
        return True

    def need(self, token):
        """Goes on behind the token, which must be the next one."""
        if not self.takes(token):
            raise BadForm(f"{token} is missing")

    def need_end(self):
        """Raises BadForm if something follows."""
        if self.ahead() != "":
            raise BadForm("something follows the end")

    def has_another(self, found, most):
        """Tells whether a list, of which some items are found, goes on; goes on behind the comma."""
        if not found:
            return True
        if not self.takes(","):
            return False
        if len(found) == most:
            raise BadForm(f"a list has more than {most} items")
        return True

    def begin_nested(self):
        """Counts the step or the atom in which the following ones stand."""
        if self.nested == MAX_NESTED:
            raise BadForm("steps and atoms are nested too deep")
        self.nested += 1

    def end_nested(self):
        """Leaves what was begun last."""
        self.nested -= 1

    def read_name(self):
        """Reads a name."""
        name = self.take()
        check_name(name)
        return name

    def read_one_of(self, words):
        """Reads one of some words."""
        word = self.take()
        if word not in words:
            raise BadForm(f"{word} does not fit here")
        return word

    def read_types(self):
        """Reads the types of a declaration, which may be left out."""
        types = []
        if self.takes("("):
            while self.has_another(types, MAX_ARGS):
                types.append(self.read_one_of(TYPES))
            self.need(")")
        return tuple(types)

    def read_decl(self):
        """Reads a declaration."""
        name = self.read_name()
        types = self.read_types()
        self.need(":")
        return (name, types, self.read_one_of(KINDS))

    def read_decls(self):
        """Reads the declarations in front of a term, and puts them in order."""
        decls = []
        if self.ahead() != "|-":
            while self.has_another(decls, MAX_DECLS):
                decls.append(self.read_decl())
        check_different(decls)
        return tuple(sorted(decls, key=lambda decl: decl[0]))

    def read_whole(self):
        """Reads a piece, with nothing behind it."""
        decls = self.read_decls()
        self.need("|-")
        kind = self.read_one_of(KINDS)
        self.need(":")
        term = self.read_command({}) if kind == "com" else self.read_expression({})
        self.need_end()
        return (decls, kind, term)

    def read_command(self, scope):
        """Reads steps, and groups them from the left."""
        self.begin_nested()
        command = self.read_step(scope)
        while self.takes(";"):
            command = ("seq", command, self.read_step(scope))
        self.end_nested()
        return command

    def read_expression(self, scope):
        """Reads atoms with operators between them."""
        self.begin_nested()
        parts = [self.read_atom(scope)]
        while word := operator_of(self.ahead()):
            self.take()
            parts.extend([word, self.read_atom(scope)])
        self.end_nested()
        return expression_of(parts)

    def read_part(self, kind, scope):
        """Reads a command in braces or an expression in brackets."""
        opening, closing = BRACKETS[kind]
        self.need(opening)
        term = self.read_command(scope) if kind == "com" else self.read_expression(scope)
        self.need(closing)
        return term

    def read_step(self, scope):
        """Reads a step."""
        word = self.take()
        if word == "skip":
            return (word,)
        if word == "while":
            condition = self.read_expression(scope)
            return (word, condition, self.read_part("com", scope))
        if word == "block":
            label = self.read_name()
            return (word, label, self.read_part("com", {**scope, label: True}))
        if word in SHARED:
            return self.read_shared(word, "com", scope)
        check_name(word)
        if self.takes(":="):
            return ("set", word, self.read_expression(scope))
        return self.read_call(word, scope)

    def read_atom(self, scope):
        """Reads an atom."""
        word = self.take()
        if word.isdigit() and int(word) < WIDTH:
            return ("num", int(word))
        if word == "(":
            inner = self.read_expression(scope)
            self.need(")")
            return inner
        if word == "do":
            command = self.read_part("com", scope)
            return (word, command, self.read_part("exp", scope))
        if word in SHARED:
            return self.read_shared(word, "exp", scope)
        check_name(word)
        if self.ahead() != "(" and scope.get(word, False):
            return ("read", word)
        return self.read_call(word, scope)

    def read_shared(self, word, kind, scope):
        """Reads what follows the first word of a form that commands and expressions have."""
        if word == "exit":
            return (word, self.read_name())
        if word == "if":
            condition = self.read_expression(scope)
            first = self.read_part(kind, scope)
            return (word, condition, first, self.read_part(kind, scope))
        if word == "new":
            name = self.read_name()
            self.need("=")
            value = self.read_expression(scope)
            return (word, name, value, self.read_part(kind, {**scope, name: True}))
        if word == "proc":
            name, params, result = self.read_head()
            body = self.read_part(result, scope_of_body(scope, params))
            return (word, name, params, result, body, self.read_part(kind, {**scope, name: False}))
        return (word,)

    def read_params(self):
        """Reads the parameters of a procedure in parentheses; there may be none."""
        params = []
        self.need("(")
        if self.ahead() != ")":
            while self.has_another(params, MAX_ARGS):
                name = self.read_name()
                self.need(":")
                params.append((name, self.read_one_of(TYPES)))
        self.need(")")
        check_different(params)
        return tuple(params)

    def read_head(self):
        """Reads the name, the parameters and the result of a procedure."""
        name = self.read_name()
        params = self.read_params()
        self.need(":")
        return (name, params, self.read_one_of(KINDS))

    def read_call(self, name, scope):
        """Reads the arguments of a call, which may be left out."""
        args = []
        if self.takes("("):
            while self.has_another(args, MAX_ARGS):
                if self.ahead() == "{":
                    args.append(("com", self.read_part("com", scope)))
                else:
                    args.append(("exp", self.read_expression(scope)))
            self.need(")")
        return ("call", name, tuple(args))


def read_piece(text):
    """Returns the piece of a text."""
    if len(text) > MAX_TEXT:
        raise BadForm(f"the text has more than {MAX_TEXT} characters")
    piece = Reader(text).read_whole()
    check_piece(piece)
    return piece
