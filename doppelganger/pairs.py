"""Two machines that move side by side, where -1 stands for nowhere ([3.5], [3.6])."""

from doppelganger.errors import NotAllowed

NOWHERE = (-1, -1)


def check_letters(first, second):
    """Raises NotAllowed if two machines do not have the same letters."""
    if first[0] != second[0]:
        raise NotAllowed("the machines do not have the same letters")


def first_state(machine):
    """Returns the state in which a machine begins."""
    return 0 if machine[1] else -1


def first_pair(first, second):
    """Returns the pair in which two machines begin."""
    return (first_state(first), first_state(second))


def next_states(machine, state):
    """Returns the next states of a state by all letters, in order."""
    return machine[1][state] if state != -1 else (-1,) * machine[0]


def next_pairs(first, second, pair):
    """Returns the next pairs of a pair by all letters, in order."""
    return list(zip(next_states(first, pair[0]), next_states(second, pair[1])))


def is_end(machine, state):
    """Tells whether a state is accepting."""
    return state != -1 and machine[2][state]


def agree(first, second, pair):
    """Tells whether both states of a pair are accepting, or neither is."""
    return is_end(first, pair[0]) == is_end(second, pair[1])
