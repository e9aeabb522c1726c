"""Least machines of machines of any size ([3.3])."""


def met_from(moves, start):
    """Returns the states that are met from a state, in the order of [3.3]."""
    found = [start]
    seen = {start: True}
    at = 0
    while at < len(found):
        entry = moves[found[at]]
        for state in entry:
            if state != -1 and state not in seen:
                seen[state] = True
                found.append(state)
        at += 1
    return found


def live_states(moves, accepting):
    """Returns a dict of True for the states from which some word is accepted."""
    sources = [[] for _ in moves]
    for state, entry in enumerate(moves):
        for target in entry:
            if target != -1:
                sources[target].append(state)
    waiting = [state for state in range(len(moves)) if accepting[state]]
    live = {state: True for state in waiting}
    while waiting:
        before = sources[waiting.pop()]
        for state in before:
            if state not in live:
                live[state] = True
                waiting.append(state)
    return live


def trimmed(moves, accepting):
    """Returns the moves and ends of the states that are met and live, numbered as they are met."""
    live = live_states(moves, accepting)
    if 0 not in live:
        return [], []
    kept = [state for state in met_from(moves, 0) if state in live]
    numbers = {state: number for number, state in enumerate(kept)}
    entries = [[numbers.get(target, -1) for target in moves[state]] for state in kept]
    return entries, [accepting[state] for state in kept]


class Blocks:
    """States in blocks, which are split again and again.

    `pending` has the blocks by which states are still to be told apart. Whenever a block is split,
    the smaller part becomes a new block, so that no state is moved often.
    """

    def __init__(self, count):
        self.block_of = [0] * count
        self.members = [{state: True for state in range(count)}]
        self.pending = [0]

    def move_out(self, states, block):
        """Makes a new block of some states of a block."""
        for state in states:
            del self.members[block][state]
            self.block_of[state] = len(self.members)
        self.pending.append(len(self.members))
        self.members.append({state: True for state in states})

    def split_by(self, states):
        """Splits each block that has some of the states and others."""
        parts = {}
        for state in states:
            parts.setdefault(self.block_of[state], []).append(state)
        for block, part in parts.items():
            size = len(self.members[block])
            if 2 * len(part) <= size:
                self.move_out(part, block)
            elif len(part) < size:
                inside = {state: True for state in part}
                self.move_out([state for state in self.members[block] if state not in inside], block)


def sources_by_letter(letters, moves):
    """Returns for each letter a dict from states to the states from which the letter leads there."""
    found = [{} for _ in range(letters)]
    for state, entry in enumerate(moves):
        for letter, target in enumerate(entry):
            if target != -1:
                found[letter].setdefault(target, []).append(state)
    return found


def blocks_of(letters, moves, accepting):
    """Returns the blocks of states from which the same words are accepted; all states are live."""
    sources = sources_by_letter(letters, moves)
    blocks = Blocks(len(moves))
    blocks.split_by([state for state in range(len(moves)) if accepting[state]])
    while blocks.pending:
        # The block may be split meanwhile; the states that it has now tell apart all the same.
        targets = list(blocks.members[blocks.pending.pop()])
        for found in sources:
            blocks.split_by([state for target in targets for state in found.get(target, [])])
    return blocks


def least(letters, moves, accepting):
    """Returns the least machine of these moves and ends; there may be any number of states."""
    moves, accepting = trimmed(moves, accepting)
    if not moves:
        return (letters, (), ())
    blocks = blocks_of(letters, moves, accepting)
    examples = [min(members) for members in blocks.members]
    joined = [[-1 if target == -1 else blocks.block_of[target] for target in moves[state]] for state in examples]
    order = met_from(joined, blocks.block_of[0])
    numbers = {block: number for number, block in enumerate(order)}
    # -1 stands for itself.
    numbers[-1] = -1
    return (
        letters,
        tuple([tuple([numbers[target] for target in joined[block]]) for block in order]),
        tuple([accepting[examples[block]] for block in order]),
    )
