"""Modules that are the same, and relations of their states ([7.10], [7.11])."""

from doppelganger.errors import Apart, BadKind, NotAllowed
from doppelganger.modules import first_state, piece_of
from doppelganger.operations import Running, is_state
from doppelganger.same import same


def check_kinds(first, second):
    """Raises BadKind if the operations of two modules do not have the same kinds, in order."""
    if [kind for _, kind, _ in first[1]] != [kind for _, kind, _ in second[1]]:
        raise BadKind("the operations do not have the same kinds")


def same_modules(first, second):
    """Tells whether two modules are the same."""
    # The pieces of modules with other kinds of operations are not comparable, so this raises BadKind for them.
    return same(piece_of(first), piece_of(second))


class Beside:
    """Two modules that are run beside each other."""

    def __init__(self, first, second):
        self.first = Running(first)
        self.second = Running(second)
        self.many = len(first[1])

    def start(self):
        """Returns the pair of the first states."""
        return (first_state(self.first.module), first_state(self.second.module))

    def outcomes(self, pair):
        """Returns what both modules do in the states of a pair, as a pair for each operation."""
        state, other = pair
        return [(self.first.behind(state, index), self.second.behind(other, index)) for index in range(self.many)]

    def pairs_behind(self, pair):
        """Returns the pairs of states behind the operations that are done, for a pair in which the modules agree."""
        return [(one[2], two[2]) for one, two in self.outcomes(pair) if one[0] == "done"]

    def agrees(self, pair):
        """Tells whether each operation has the same result and value in both states of a pair."""
        return all([one[:2] == two[:2] for one, two in self.outcomes(pair)])

    def has_states(self, pair):
        """Tells whether a pair has a state of the first and a state of the second module."""
        return is_state(self.first.module, pair[0]) and is_state(self.second.module, pair[1])


def relation(first, second):
    """Returns the pairs of states to which two modules come behind the same calls."""
    if not same_modules(first, second):
        raise Apart("the modules are not the same")
    beside = Beside(first, second)
    found = {beside.start(): True}
    waiting = [beside.start()]
    while waiting:
        for pair in beside.pairs_behind(waiting.pop()):
            if pair not in found:
                found[pair] = True
                waiting.append(pair)
    return sorted(found)


def is_relation(first, second, pairs):
    """Tells whether a list of pairs of states is a certificate that two modules are the same."""
    check_kinds(first, second)
    beside = Beside(first, second)
    for pair in pairs:
        if not beside.has_states(pair):
            raise NotAllowed("a pair has something that is not a state")
    there = {pair: True for pair in pairs}
    kept = [beside.agrees(pair) and all([behind in there for behind in beside.pairs_behind(pair)]) for pair in there]
    return beside.start() in there and all(kept)
