"""Machines that accept words ([3.1] to [3.3])."""

from doppelganger.errors import NotAllowed
from doppelganger.least import least

MAX_SIGNS = 200
MAX_MACHINE = 400
MAX_PAIRS = 4000
MAX_COUNT = 100


def are_moves(entry, letters, states):
    """Tells whether the entry of a state has one move for each letter, to states that there are."""
    return len(entry) == letters and all([-1 <= target < states for target in entry])


def check_machine(machine):
    """Raises NotAllowed if the argument is not a machine."""
    letters, moves, accepting = machine
    if not 0 <= letters <= MAX_SIGNS:
        raise NotAllowed(f"the number of letters is not from 0 to {MAX_SIGNS}")
    if len(moves) > MAX_MACHINE:
        raise NotAllowed(f"there are more than {MAX_MACHINE} states")
    if len(accepting) != len(moves):
        raise NotAllowed("there is not one truth value for each state")
    if not all([are_moves(entry, letters, len(moves)) for entry in moves]):
        raise NotAllowed("the entry of a state does not fit")


def accepts(machine, word):
    """Tells whether a machine accepts a word."""
    letters, moves, accepting = machine
    state = 0 if moves else -1
    for letter in word:
        if state == -1 or not 0 <= letter < letters:
            return False
        state = moves[state][letter]
    return state != -1 and accepting[state]


def least_machine(machine):
    """Returns the least machine that accepts the same words."""
    letters, moves, accepting = machine
    return least(letters, moves, accepting)


def ways_of(entry):
    """Returns a dict from the next states of a state to the number of letters that lead there."""
    found = {}
    for target in entry:
        if target != -1:
            found[target] = found.get(target, 0) + 1
    return found


def counts_behind(counts, ways):
    """Returns the numbers of words that lead to each state, one letter further on."""
    found = {}
    for state, count in counts.items():
        for target, many in ways[state].items():
            found[target] = found.get(target, 0) + count * many
    return found


def count_words(machine, length):
    """Returns the number of accepted words with a length."""
    if not 0 <= length <= MAX_COUNT:
        raise NotAllowed(f"the length is not from 0 to {MAX_COUNT}")
    _, moves, accepting = machine
    ways = [ways_of(entry) for entry in moves]
    counts = {0: 1} if moves else {}
    for _ in range(length):
        counts = counts_behind(counts, ways)
    return sum([count for state, count in counts.items() if accepting[state]])
