"""The words, digits and marks of which texts of pieces consist ([1.9])."""

from doppelganger.errors import BadForm
from doppelganger.terms import is_letter

# Of two marks that begin alike the longer one stands first, so that it is the one that is read.
MARKS = ("|-", ":=", "==", ",", ":", ";", "=", "<", "+", "-", "*", "(", ")", "{", "}", "[", "]")
BRACKETS = {"com": ("{", "}"), "exp": ("[", "]")}
SIGNS = {"equal": "==", "less": "<", "add": "+", "sub": "-", "mul": "*"}
RANKS = {"equal": 0, "less": 0, "add": 1, "sub": 1, "mul": 2}


def operator_of(sign):
    """Returns the first word of the operator with this sign, or the empty text if there is none."""
    for word in SIGNS:
        if SIGNS[word] == sign:
            return word
    return ""


def word_at(text, start):
    """Returns the longest run of small letters that begins at a place of a text."""
    end = start
    while end < len(text) and is_letter(text[end]):
        end += 1
    return text[start:end]


def token_at(text, start):
    """Returns the word, digit or mark that begins at a place of a text."""
    if is_letter(text[start]):
        return word_at(text, start)
    if "0" <= text[start] <= "9":
        return text[start]
    for mark in MARKS:
        if text.startswith(mark, start):
            return mark
    raise BadForm(f"no word, digit or mark begins at the place {start}")


def tokens_of(text):
    """Returns the words, digits and marks of a text, in order."""
    found = []
    place = 0
    while place < len(text):
        if text[place] == " ":
            place += 1
        else:
            token = token_at(text, place)
            found.append(token)
            place += len(token)
    return found
