"""The lines of scripts ([9.2])."""

from doppelganger.terms import is_name

MAX_DIGITS = 3

# What follows the first word: the name of a piece or of a module that is read, the name of a piece
# that is made, or a number.
FORMS = {
    "show": ("piece",),
    "fill": ("piece", "piece", "made"),
    "run": ("piece",),
    "same": ("piece", "piece"),
    "differ": ("piece", "piece"),
    "witness": ("piece", "piece", "made"),
    "certify": ("piece", "piece"),
    "twin": ("module", "module"),
    "rule": ("piece", "piece"),
    "apply": ("number", "piece", "number", "made"),
    "simplify": ("piece", "made"),
    "code": ("piece",),
    "attack": ("piece", "piece"),
}
# The first words of lines that end with a text.
WITH_TEXT = ("let", "module")


def is_number(word):
    """Tells whether a word is a number as lines have them."""
    if not 1 <= len(word) <= MAX_DIGITS or not all(["0" <= sign <= "9" for sign in word]):
        return False
    return word == "0" or word[0] != "0"


def fits_field(word, field):
    """Tells whether a word may stand in a field of a line."""
    return is_number(word) if field == "number" else is_name(word)


def read_with_text(line):
    """Returns the words of a line that ends with a text, or None if it has another form."""
    # The text may have spaces, also at its ends.
    parts = line.split(" ", 3)
    if len(parts) != 4 or not is_name(parts[1]) or parts[2] != "=":
        return None
    return (parts[0], parts[1], parts[3])


def read_command(line):
    """Returns the words of a line, with numbers as integers, or None if it has no form of the table."""
    if line == "":
        return ()
    first, *words = line.split(" ")
    if first in WITH_TEXT:
        return read_with_text(line)
    if first not in FORMS or len(words) != len(FORMS[first]):
        return None
    fields = FORMS[first]
    if not all([fits_field(word, field) for word, field in zip(words, fields)]):
        return None
    return (first, *[int(word) if field == "number" else word for word, field in zip(words, fields)])
