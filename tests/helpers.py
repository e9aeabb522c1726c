"""Builders of pieces and checks that several tests share."""

import re

from doppelganger.terms import row

SKIP = ("skip",)
ONE = ("num", 1)
PLAIN = {"com": SKIP, "exp": ONE}


def program(kind, term):
    """A piece without declarations."""
    return ((), kind, term)


def error_of(function, *args):
    """The class of the error that a call raises, or None if it returns."""
    try:
        function(*args)
    except Exception as error:  # pylint: disable=broad-except
        return error.__class__
    return None


def tokens(text):
    """The words, digits and marks of a text that follows the grammar."""
    return re.findall(r"[a-z]+|[|]-|:=|==|[^ ]", text)


def spread(text):
    """The same words, digits and marks with spaces between all of them and at both ends."""
    return "  " + "   ".join(tokens(text)) + " "


def squeezed(text):
    """The same words, digits and marks with spaces between words alone."""
    found = ""
    for token in tokens(text):
        if found[-1:].isalpha() and token.isalpha():
            found += " "
        found += token
    return found


def row_of(steps):
    """The row of some commands, none of which is a row."""
    whole = steps[0]
    for step in steps[1:]:
        whole = row(whole, step)
    return whole


def row_with_nodes(count):
    """A row of steps with so many nodes."""
    if count % 2:
        return row_of([SKIP] * ((count + 1) // 2))
    return row_of([("set", "x", ONE)] + [SKIP] * ((count - 2) // 2))


def sum_of(count):
    """A sum of so many numbers, grouped from the left."""
    whole = ONE
    for _ in range(count - 1):
        whole = ("add", whole, ONE)
    return whole


def wrapped(wrap, times, term):
    """A term that is wrapped so many times."""
    for _ in range(times):
        term = wrap(term)
    return term


# For each place in which a part of a form stands: its name, the kind of the whole, the kind of
# the part, and the whole around a part. All names that are used are bound by OUTSIDE.
PLACES = [
    ("seq first", "com", "com", lambda t: ("seq", t, SKIP)),
    ("seq second", "com", "com", lambda t: ("seq", SKIP, t)),
    ("set", "com", "exp", lambda t: ("set", "x", t)),
    ("while condition", "com", "exp", lambda t: ("while", t, SKIP)),
    ("while", "com", "com", lambda t: ("while", ONE, t)),
    ("block", "com", "com", lambda t: ("block", "k", t)),
    ("do first", "exp", "com", lambda t: ("do", t, ONE)),
    ("do second", "exp", "exp", lambda t: ("do", SKIP, t)),
] + [
    (f"{word} {at}", "exp", "exp", lambda t, word=word, at=at: (word, t, ONE) if at else (word, ONE, t))
    for word in ("add", "sub", "mul", "equal", "less")
    for at in (1, 0)
] + [
    place
    for kind in ("com", "exp")
    for place in [
        (f"if condition {kind}", kind, "exp", lambda t, kind=kind: ("if", t, PLAIN[kind], PLAIN[kind])),
        (f"if first {kind}", kind, kind, lambda t, kind=kind: ("if", ONE, t, PLAIN[kind])),
        (f"if second {kind}", kind, kind, lambda t, kind=kind: ("if", ONE, PLAIN[kind], t)),
        (f"new value {kind}", kind, "exp", lambda t, kind=kind: ("new", "y", t, PLAIN[kind])),
        (f"new last {kind}", kind, kind, lambda t: ("new", "y", ONE, t)),
        (f"call com of {kind}", kind, "com", lambda t, kind=kind: ("call", f"{kind[0]}c", (("com", t),))),
        (f"call exp of {kind}", kind, "exp",
         lambda t, kind=kind: ("call", f"{kind[0]}ec", (("exp", t), ("com", SKIP)))),
        (f"proc com block {kind}", kind, kind, lambda t: ("proc", "g", (), "com", SKIP, t)),
        (f"proc body com of {kind}", kind, "com", lambda t, kind=kind: ("proc", "g", (), "com", t, PLAIN[kind])),
        (f"proc body exp of {kind}", kind, "exp",
         lambda t, kind=kind: ("proc", "g", (("b", "val"),), "exp", t, PLAIN[kind])),
    ]
]


def outside(kind, term):
    """A piece around a term, in which x and the procedures that PLACES calls are bound."""
    for name, params, result in [
        ("cc", (("a", "com"),), "com"),
        ("cec", (("a", "val"), ("b", "com")), "com"),
        ("ec", (("a", "com"),), "exp"),
        ("eec", (("a", "exp"), ("b", "com")), "exp"),
    ]:
        term = ("proc", name, params, result, PLAIN[result], term)
    return ((), kind, ("new", "x", ONE, term))


# The levels that `outside` puts around its term.
OUTSIDE_LEVELS = 5
