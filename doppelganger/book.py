"""Books of rules, by which pieces are rewritten ([6.2], [6.5] to [6.7])."""

from doppelganger.errors import Apart, BadKind, BadName, Missing, NotAllowed, TooLarge
from doppelganger.matching import Side, fill_side, growth, match_side, replace_at
from doppelganger.names import used_names
from doppelganger.same import check_comparable, same
from doppelganger.terms import is_too_large, nodes

MAX_RULES = 12


def check_unknowns(left, right):
    """Raises an error if two pieces cannot be the sides of a rule because of what they declare or use."""
    check_comparable(left, right)
    if any([types for _, types, _ in left[0]]):
        raise BadKind("an unknown has arguments")
    used = used_names(left)
    if not all([name in used for name in used_names(right)]):
        raise BadName("the right side uses an unknown that the left one does not use")


class Book:
    """A list of rules.

    `rules` has the pairs of their sides, and `sides` the same ones, made ready to be matched.
    """

    def __init__(self):
        self.rules = []
        self.sides = []

    def add(self, left, right):
        """Appends a rule."""
        check_unknowns(left, right)
        if len(self.rules) >= MAX_RULES:
            raise TooLarge(f"there are {MAX_RULES} rules")
        if not same(left, right):
            raise Apart("the sides have other plays")
        self.rules.append((left, right))
        self.sides.append((Side(left), Side(right)))

    def size(self):
        """Returns the number of rules."""
        return len(self.rules)

    def rule(self, index):
        """Returns the pair of the sides of a rule."""
        if not 0 <= index < len(self.rules):
            raise Missing(f"there is no rule {index}")
        return self.rules[index]

    def found_by(self, index, back, kind, term):
        """Returns what stands for the unknowns of a rule in a term of a kind, or None if it cannot be applied."""
        if kind != self.rules[index][0][1]:
            return None
        source, target = self.ways(index, back)
        found = match_side(source, target, term)
        if found is None or not all([name in found for name in target.times]):
            return None
        return found

    def ways(self, index, back):
        """Returns the side of a rule that is matched, and the one that is put in its place."""
        left, right = self.sides[index]
        return (right, left) if back else (left, right)

    def rewritten(self, index, back, piece, number, found):
        """Returns a piece with a node rewritten by a rule, for whose unknowns something was found there."""
        decls, kind, term = piece
        _, target = self.ways(index, back)
        whole = replace_at(term, number, fill_side(target, found))
        if is_too_large(whole, kind):
            raise TooLarge("the piece has too many nodes or levels")
        return (decls, kind, whole)

    def apply_rule(self, index, back, piece, number):
        """Returns a piece with a node rewritten by a rule."""
        self.rule(index)
        here = nodes(piece[2], piece[1])
        if not 0 <= number < len(here):
            raise NotAllowed(f"there is no node {number}")
        kind, term, _ = here[number]
        found = self.found_by(index, back, kind, term)
        if found is None:
            raise Apart("the rule does not fit the node")
        return self.rewritten(index, back, piece, number, found)

    def smaller_by(self, index, piece, number, kind, term):
        """Returns the piece with a node rewritten by a rule if that has fewer nodes, otherwise None."""
        found = self.found_by(index, False, kind, term)
        if found is None:
            return None
        source, target = self.ways(index, False)
        if growth(source, target, found) >= 0:
            return None
        try:
            return self.rewritten(index, False, piece, number, found)
        except TooLarge:
            # With fewer nodes there may be more levels.
            return None

    def first_step(self, piece):
        """Returns the index of the first rule that makes a piece smaller, and that piece, or None."""
        for number, (kind, term, _) in enumerate(nodes(piece[2], piece[1])):
            for index in range(len(self.rules)):
                made = self.smaller_by(index, piece, number, kind, term)
                if made is not None:
                    return index, made
        return None

    def simplify(self, piece):
        """Returns a piece that no rule makes smaller any more, and the indexes of the rules that were applied."""
        indexes = []
        step = self.first_step(piece)
        while step is not None:
            index, piece = step
            indexes.append(index)
            step = self.first_step(piece)
        return piece, indexes
