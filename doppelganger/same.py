"""Pieces that have the same plays, and plays in which pieces differ ([5.1] to [5.3])."""

from doppelganger.differ import first_difference
from doppelganger.errors import BadKind, Same
from doppelganger.moves import letters
from doppelganger.plays import plays


def check_comparable(first, second):
    """Raises BadKind if two pieces do not have the same declarations and kind."""
    if first[:2] != second[:2]:
        raise BadKind("the pieces do not have the same declarations and kind")


def machines_of(first, second):
    """Returns the machines of the plays of two pieces, which must be comparable."""
    check_comparable(first, second)
    return plays(first), plays(second)


def same(first, second):
    """Tells whether two pieces have the same plays."""
    one, other = machines_of(first, second)
    # Each piece has exactly one least machine.
    return one == other


def difference(first, second):
    """Returns the first play that one of two pieces has alone, and whether it is the first piece."""
    one, other = machines_of(first, second)
    found = first_difference(one, other)
    if found is None:
        raise Same("the pieces have the same plays")
    word, is_first = found
    signs = letters(first[0], first[1])
    return [signs[letter] for letter in word], is_first
