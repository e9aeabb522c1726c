"""Machines for the tests, and what is told of machines, written down once more as plainly as possible."""

import itertools
import random

EVEN = (1, ((1,), (0,)), (True, False))
THREE = (1, ((1,), (2,), (1,)), (True, False, True))
NONE = (1, (), ())


def random_machine(seed, letters, states, holes=0.3, ends=0.4):
    """The same machine for a seed each time."""
    chance = random.Random(f"machine {seed} {letters} {states} {holes} {ends}")
    moves = tuple(
        tuple(-1 if chance.random() < holes else chance.randrange(states) for _ in range(letters)) for _ in range(states)
    )
    return (letters, moves, tuple(chance.random() < ends for _ in range(states)))


def random_machines(count, seed=0, most_letters=3, most_states=6):
    """So many machines of all sizes, also without states and without letters."""
    chance = random.Random(f"machines {seed}")
    return [
        random_machine(f"{seed} {at}", chance.randrange(most_letters + 1), chance.randrange(most_states + 1),
                       chance.choice([0, 0.2, 0.5]), chance.choice([0.1, 0.3, 0.5]))
        for at in range(count)
    ]


def words(letters, most):
    """All words up to a length, in the order of words."""
    for length in range(most + 1):
        for word in itertools.product(range(letters), repeat=length):
            yield list(word)


def step(machine, state, letter):
    """The next state, or -1."""
    return -1 if state == -1 or not 0 <= letter < machine[0] else machine[1][state][letter]


def has_word(machine, word):
    """Whether a machine accepts a word."""
    state = 0 if machine[1] else -1
    for letter in word:
        state = step(machine, state, letter)
    return state != -1 and machine[2][state]


def classes(machine):
    """The number of the class of each state and of -1, where states of a class accept the same words."""
    states = list(range(len(machine[1]))) + [-1]
    found = {state: int(state != -1 and machine[2][state]) for state in states}
    while True:
        told = {state: (found[state],) + tuple(found[step(machine, state, letter)] for letter in range(machine[0]))
                for state in states}
        numbers = {each: number for number, each in enumerate(sorted(set(told.values())))}
        refined = {state: numbers[told[state]] for state in states}
        if len(set(refined.values())) == len(set(found.values())):
            return refined
        found = refined


def plain_least(machine):
    """The least machine, made from the classes of the states."""
    found = classes(machine)
    dead = found[-1]
    if not machine[1] or found[0] == dead:
        return (machine[0], (), ())
    example = {found[state]: state for state in reversed(range(len(machine[1])))}
    order, at = [found[0]], 0
    while at < len(order):
        for letter in range(machine[0]):
            behind = found[step(machine, example[order[at]], letter)]
            if behind != dead and behind not in order:
                order.append(behind)
        at += 1
    number = {each: at for at, each in enumerate(order)}
    moves = tuple(tuple(number.get(found[step(machine, example[each], letter)], -1) for letter in range(machine[0]))
                  for each in order)
    return (machine[0], moves, tuple(machine[2][example[each]] for each in order))


def chain(letters, length, loop=False):
    """A machine that accepts the word of so many letters 0 alone, or with all of its multiples."""
    count = length if loop else length + 1
    moves = [[(at + 1) % count if loop else (at + 1 if at < length else -1)] + [-1] * (letters - 1) for at in range(count)]
    return (letters, tuple(map(tuple, moves)), tuple(at == (0 if loop else length) for at in range(count)))


def with_move(machine, state, letter, target):
    """A machine with one other move."""
    letters, moves, accepting = machine
    entry = moves[state][:letter] + (target,) + moves[state][letter + 1:]
    return (letters, moves[:state] + (entry,) + moves[state + 1:], accepting)


def with_end(machine, state):
    """A machine in which one state is accepting or not, other than before."""
    letters, moves, accepting = machine
    return (letters, moves, accepting[:state] + (not accepting[state],) + accepting[state + 1:])


def shuffled(machine, seed):
    """The same machine with other numbers for its states but the first, and some states that are not met."""
    chance = random.Random(f"shuffled {seed}")
    letters, moves, accepting = machine
    if not moves:
        return machine
    more = chance.randrange(3)
    moves = moves + tuple(tuple(chance.randrange(len(moves)) for _ in range(letters)) for _ in range(more))
    accepting = accepting + (True,) * more
    order = list(range(1, len(moves)))
    chance.shuffle(order)
    order = [0] + order
    number = {state: at for at, state in enumerate(order)} | {-1: -1}
    return (letters, tuple(tuple(number[target] for target in moves[state]) for state in order),
            tuple(accepting[state] for state in order))


def doubled(machine):
    """The same machine with each state twice; moves lead to the other copy."""
    letters, moves, accepting = machine
    count = len(moves)
    other = tuple(tuple(target if target == -1 else target + count for target in entry) for entry in moves)
    return (letters, other + moves, accepting * 2)
