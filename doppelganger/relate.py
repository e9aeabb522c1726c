"""Relations that show that two machines are the same ([3.5], [3.6])."""

from doppelganger.differ import first_difference
from doppelganger.errors import Apart, BadForm
from doppelganger.pairs import NOWHERE, agree, check_letters, first_pair, next_pairs


def relation(first, second):
    """Returns the least relation that shows that two machines are the same."""
    check_letters(first, second)
    if first_difference(first, second) is not None:
        raise Apart("the machines do not accept the same words")
    found = {NOWHERE: True, first_pair(first, second): True}
    waiting = [pair for pair in found if pair != NOWHERE]
    while waiting:
        behind = next_pairs(first, second, waiting.pop())
        for pair in behind:
            if pair not in found:
                found[pair] = True
                waiting.append(pair)
    return sorted([pair for pair in found if pair != NOWHERE])


def is_place(machine, number):
    """Tells whether a number is a state of a machine, or nowhere."""
    return -1 <= number < len(machine[1])


def check_pairs(first, second, pairs):
    """Raises BadForm if a list is not a relation of two machines."""
    for one, other in pairs:
        if not is_place(first, one) or not is_place(second, other) or (one, other) == NOWHERE:
            raise BadForm(f"({one}, {other}) is not a pair of a relation")
    for at in range(len(pairs) - 1):
        if pairs[at] >= pairs[at + 1]:
            raise BadForm("the pairs are not different, or not in ascending order")


def check_relation(first, second, pairs):
    """Raises an error if a list is not a relation that shows that two machines are the same."""
    check_letters(first, second)
    check_pairs(first, second, pairs)
    there = {pair: True for pair in pairs}
    there[NOWHERE] = True
    if first_pair(first, second) not in there:
        raise Apart("the pair of the first states is missing")
    for pair in pairs:
        if not agree(first, second, pair):
            raise Apart("a state is accepting, the other one of its pair is not")
        if not all([behind in there for behind in next_pairs(first, second, pair)]):
            raise Apart("a pair of next states is missing")
