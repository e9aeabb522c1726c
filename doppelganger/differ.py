"""The first difference of two machines ([3.4])."""

from doppelganger.errors import Same
from doppelganger.pairs import agree, check_letters, first_pair, is_end, next_pairs


class Likes:
    """States of two machines, joined as far as they must be alike if the machines are the same."""

    def __init__(self, first, second):
        self.many = len(first[1]) + 1
        self.heads = list(range(self.many + len(second[1])))

    def head(self, place):
        """Returns what stands for all that is joined with a place."""
        while self.heads[place] != place:
            self.heads[place] = self.heads[self.heads[place]]
            place = self.heads[place]
        return place

    def unite(self, pair):
        """Joins the states of a pair, and tells whether they were not joined yet."""
        # Nowhere is the same in both machines, at the place 0.
        one = self.head(pair[0] + 1)
        other = self.head(0 if pair[1] == -1 else pair[1] + self.many)
        self.heads[one] = other
        return one != other


def word_to(found, at):
    """Returns the word that leads to an entry of the list of what was found."""
    word = []
    while at != 0:
        _, at, letter = found[at]
        word.append(letter)
    return word[::-1]


def first_difference(first, second):
    """Returns the first difference and whether the first machine accepts it, or None if there is none."""
    found = [(first_pair(first, second), 0, 0)]
    likes = Likes(first, second)
    at = 0
    while at < len(found):
        pair = found[at][0]
        if not agree(first, second, pair):
            return word_to(found, at), is_end(first, pair[0])
        # If the states are joined already, what is behind the pair shows no difference that pairs
        # which were found earlier would not show with an earlier word.
        if likes.unite(pair):
            for letter, behind in enumerate(next_pairs(first, second, pair)):
                found.append((behind, at, letter))
        at += 1
    return None


def difference(first, second):
    """Returns the first difference of two machines, and whether the first one accepts it."""
    check_letters(first, second)
    found = first_difference(first, second)
    if found is None:
        raise Same("the machines accept the same words")
    return found
