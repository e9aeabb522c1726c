"""The machine of the plays of a piece ([4.2], [4.8])."""

from doppelganger.automata import MAX_MACHINE
from doppelganger.errors import NotAllowed, TooLarge
from doppelganger.least import least
from doppelganger.moves import MAX_PLAY, QUESTION, letters
from doppelganger.situations import follow, nodes_within, outcomes_of


class Drawing:
    """The states of a machine, drawn one by one.

    A state is told by a tuple: ("first",); ("told", outcome), where the piece makes the move of the
    outcome; ("waiting", situation), where the other side moves; or ("over",).
    """

    def __init__(self, signs):
        self.numbers = {("first",): 0}
        self.moves = [[-1] * len(signs)]
        self.places = {sign: place for place, sign in enumerate(signs)}

    def number(self, state):
        """Returns the number of a state, which is a new one if it was not met yet."""
        if state not in self.numbers:
            self.numbers[state] = len(self.moves)
            self.moves.append([-1] * len(self.places))
        return self.numbers[state]

    def draw(self, state, sign, target):
        """Draws a move from a state to another one."""
        number = self.number(target)
        self.moves[self.number(state)][self.places[sign]] = number

    def draw_outcome(self, state, sign, outcome):
        """Draws a move of the other side, and the move that the piece makes behind it, if it makes one."""
        made, situation = outcome
        if made is not None:
            self.draw(state, sign, ("told", outcome))
            self.draw(("told", outcome), made, ("over",) if situation is None else ("waiting", situation))


def plays(piece):
    """Returns the least machine that accepts the plays of a piece."""
    decls, kind, _ = piece
    first, found = outcomes_of(nodes_within(piece))
    drawing = Drawing(letters(decls, kind))
    drawing.draw_outcome(("first",), QUESTION, first)
    for situation, outcomes in found.items():
        for sign, outcome in outcomes:
            drawing.draw_outcome(("waiting", situation), sign, outcome)
    ends = [state[0] in ("waiting", "over") for state in drawing.numbers]
    machine = least(len(drawing.places), drawing.moves, ends)
    if len(machine[1]) > MAX_MACHINE:
        raise TooLarge(f"the machine has more than {MAX_MACHINE} states")
    return machine


def is_play(piece, moves):
    """Tells whether a list of moves is a play of a piece."""
    nodes = nodes_within(piece)
    if len(moves) > MAX_PLAY:
        raise NotAllowed(f"there are more than {MAX_PLAY} moves")
    if len(moves) & 1 == 1:
        # No play, but a run that is too long on the way is told all the same.
        follow(nodes, moves[:-2])
        return False
    outcome = follow(nodes, moves[:-1])
    return outcome is not None and outcome[0] is not None and outcome[0] == moves[-1]
