"""New machines that are made from machines ([3.7], [3.8])."""

from doppelganger.automata import MAX_MACHINE, MAX_PAIRS, least_machine
from doppelganger.errors import NotAllowed, TooLarge
from doppelganger.least import least
from doppelganger.pairs import NOWHERE, check_letters, first_pair, is_end, next_pairs


def is_counted(pair, with_nowhere):
    """Tells whether words may be accepted from a pair, of which both states or one must be there."""
    return pair != NOWHERE if with_nowhere else -1 not in pair


def numbers_of_pairs(first, second, with_nowhere):
    """Returns a dict from the pairs that are met to their numbers, in this order."""
    order = [pair for pair in [first_pair(first, second)] if is_counted(pair, with_nowhere)]
    numbers = {pair: 0 for pair in order}
    at = 0
    while at < len(order):
        behind = next_pairs(first, second, order[at])
        for pair in behind:
            if pair not in numbers and is_counted(pair, with_nowhere):
                numbers[pair] = len(order)
                order.append(pair)
        if len(order) > MAX_PAIRS:
            raise TooLarge(f"more than {MAX_PAIRS} pairs are met")
        at += 1
    return numbers


def least_of_pairs(first, second, numbers, ends):
    """Returns the least machine whose states are these pairs, of which some are accepting."""
    moves = [[numbers.get(behind, -1) for behind in next_pairs(first, second, pair)] for pair in numbers]
    made = least(first[0], moves, ends)
    if len(made[1]) > MAX_MACHINE:
        raise TooLarge(f"the machine has more than {MAX_MACHINE} states")
    return made


def combined(first, second, is_either):
    """Returns the least machine of the words that both machines accept, or at least one of them."""
    check_letters(first, second)
    one, other = least_machine(first), least_machine(second)
    numbers = numbers_of_pairs(one, other, is_either)
    ends = []
    for pair in numbers:
        told = [is_end(one, pair[0]), is_end(other, pair[1])]
        ends.append(any(told) if is_either else all(told))
    return least_of_pairs(one, other, numbers, ends)


def both(first, second):
    """Returns the least machine of the words that both machines accept."""
    return combined(first, second, False)


def either(first, second):
    """Returns the least machine of the words that at least one of the machines accepts."""
    return combined(first, second, True)


# A set of states is an integer here, in which the bit of each of its states is set.


def states_in(many):
    """Returns the states of a set, in ascending order."""
    return [state for state in range(many.bit_length()) if many >> state & 1]


def reached(moves, hidden, start):
    """Returns the set of a state and all that can be reached from it by hidden letters."""
    many = 1 << start
    waiting = [start]
    while waiting:
        entry = moves[waiting.pop()]
        for letter in hidden:
            target = entry[letter]
            if target != -1 and not many >> target & 1:
                many |= 1 << target
                waiting.append(target)
    return many


def sets_behind(many, entries):
    """Returns the next sets of a set by all letters; the entries have those of each state."""
    found = [0] * len(entries[0])
    for state in states_in(many):
        found = [one | more for one, more in zip(found, entries[state])]
    return found


def moves_of_sets(start, entries):
    """Returns a dict from the sets that are met, beginning with the first one, to their next sets."""
    found = {start: []}
    waiting = [start]
    while waiting:
        many = waiting.pop()
        next_sets = sets_behind(many, entries)
        found[many] = next_sets
        for behind in next_sets:
            if behind and behind not in found:
                found[behind] = []
                waiting.append(behind)
        if len(found) > MAX_MACHINE:
            raise TooLarge(f"more than {MAX_MACHINE} sets of states are met")
    return found


def hide(machine, hidden):
    """Returns the least machine of the accepted words without the hidden letters."""
    for letter in hidden:
        if not 0 <= letter < machine[0]:
            raise NotAllowed(f"{letter} is not a letter")
    letters, moves, accepting = least_machine(machine)
    if not moves:
        return (letters, (), ())
    left_out = {letter: True for letter in hidden}
    closed = [reached(moves, left_out, state) for state in range(len(moves))]
    # The last one stands for the state -1: no state at all.
    closed.append(0)
    entries = [[0 if at in left_out else closed[target] for at, target in enumerate(entry)] for entry in moves]
    found = moves_of_sets(closed[0], entries)
    numbers = {many: number for number, many in enumerate(found)}
    numbers[0] = -1
    ends = [any([accepting[state] for state in states_in(many)]) for many in found]
    return least(letters, [[numbers[behind] for behind in found[many]] for many in found], ends)
