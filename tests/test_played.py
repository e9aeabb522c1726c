"""[4.1], [8.4] to [8.6]: the code of a piece makes the moves that the piece makes, whatever is around it."""

import random
import unittest

from doppelganger.compiler import compile_piece
from doppelganger.cpu import run_code
from doppelganger.errors import TooLarge
from doppelganger.names import check_piece
from doppelganger.reader import read_piece
from generate import leaving_pieces, lively_pieces, playful_pieces
from helpers import error_of
from reference_plays import FAULT, Player, is_beyond, unfolded
from test_cpu import random_around, visiting_around


class End(Exception):
    def __init__(self, result, value=0):
        super().__init__()
        self.result = (result, value)


class Asked:
    """One question about a piece, which is played by the rules of [4.1]; `opened` has what is not answered in it.

    These are triples: what is asked, the index at which the code around goes on, and the value of a call.
    """

    def __init__(self, piece, behind):
        self.player = Player()
        self.player.beat = lambda many=1: None
        self.playing = self.player.whole(unfolded(piece)[0])
        self.opened = [(("", 0), behind, None)]
        self.move = next(self.playing)[0]

    def send(self, move):
        self.player.other()
        self.move = self.playing.send(move)[0]


class Played:
    """Runs code around a piece that is not beyond the border, without any code of the piece."""

    def __init__(self, piece, around, entry):
        self.piece, self.around, self.entry = piece, around, entry
        self.names = [name for name, _, _ in piece[0]]
        self.a, self.cells, self.steps, self.at, self.asked = 0, [0] * 4, 0, 0, []

    def result(self):
        """The result, or "pairs" if there are too many of them."""
        try:
            while True:
                if not 0 <= self.at < len(self.around):
                    raise End("faulted")
                if self.steps == 20000:
                    return "pairs"
                self.steps += 1
                operation, x = self.around[self.at]
                self.at += 1
                self.begin(operation, x)
        except End as end:
            return end.result + (self.steps,)

    def call(self):
        """The declaration and the value of the call that waits last."""
        if not self.asked:
            raise End("faulted")
        (name, _), _, value = self.asked[-1].opened[-1]
        return self.piece[0][self.names.index(name)], value

    def chosen(self, found, x):
        """The item with a number from 1 on."""
        if not 1 <= x <= len(found):
            raise End("faulted")
        return found[x - 1]

    def begin(self, operation, x):
        if operation == 2 and len(self.asked) < 24:
            self.asked.append(Asked(self.piece, self.at))
            self.take()
        elif operation == 3:
            (name, _, result), _ = self.call()
            if self.a >= (1 if result == "com" else 3):
                raise End("faulted")
            self.asked[-1].opened.pop()
            self.asked[-1].send((name, 0, True, self.a))
            self.take()
        elif operation == 4:
            (name, types, _), _ = self.call()
            number = self.chosen([at + 1 for at, of_type in enumerate(types) if of_type != "val"], x)
            self.asked[-1].opened.append(((name, number), self.at, None))
            self.asked[-1].send((name, number, False, 0))
            self.take()
        elif operation == 12:
            (_, types, _), value = self.call()
            self.a = self.chosen([value // 3 ** at % 3 for at in range(types.count("val"))], x)
        elif operation == 13 and self.asked:
            self.asked.pop()
        elif operation == 0 and not self.asked:
            raise End("done", self.a)
        elif operation in range(5, 12):
            self.calculate(operation, x)
        else:
            raise End("faulted")

    def calculate(self, operation, x):
        if operation == 7:
            self.cells[x % 4] = self.a
        elif operation == 9 or (operation == 10 and self.a == 0):
            self.at = x
        elif operation == 11:
            self.a = self.names.index(self.call()[0][0]) + 1 if self.asked else 0
        elif operation != 10:
            self.a = {5: x, 6: self.cells[x % 4], 8: self.a + x}[operation] % 256

    def take(self):
        """Takes the move that the piece has made."""
        last = self.asked[-1]
        if last.move is None or last.move == FAULT:
            raise End("faulted" if last.move else "never")
        name, arg, answers, value = last.move
        if not answers:
            last.opened.append(((name, 0), None, value))
            self.a, self.at = self.names.index(name) + 1, self.entry
            return
        # The answer belongs to the last question of its kind that is open.
        place = max(at for at, each in enumerate(last.opened) if each[0] == (name, arg))
        self.a, self.at = value, last.opened[place][1]
        del last.opened[place:]
        if name == "":
            self.asked.pop()


class PlayedTest(unittest.TestCase):
    def compare(self, piece, around, entry=2):
        """The result by plays, which is that of the code, too, if that is not refused for its instructions."""
        expected = Played(piece, around, entry).result()
        try:
            self.assertEqual(run_code(compile_piece(piece), around, entry), expected, (piece, around))
        except TooLarge as error:
            if "instructions" in str(error):
                return "instructions"
            self.assertEqual(expected, "pairs")
        return expected

    def test_an_example(self):
        piece = read_piece("f(val, exp) : exp |- exp : new x = 1 [ f(x + 1, x) + x ]")
        for around, expected in [
            ([(2, 0), (0, 0), (12, 1), (3, 0)], ("done", 0, 4)), ([(2, 0), (0, 0), (4, 1), (3, 0)], ("done", 2, 4)),
            ([(2, 0), (0, 0), (4, 2), (3, 0)], ("faulted", 0, 2)), ([(2, 0), (0, 0), (13, 0), (0, 0)], ("done", 1, 3)),
        ]:
            self.assertEqual(self.compare(piece, around), expected)

    def test_pieces(self):
        chance = random.Random(130)
        told = {}
        for piece in playful_pieces(150, 5, 131) + leaving_pieces(100, 6, 132) + lively_pieces(60, 6, 133):
            if error_of(check_piece, piece) is not None or error_of(compile_piece, piece) is not None:
                continue
            if not is_beyond(unfolded(piece)[0]):
                for _ in range(3):
                    result = self.compare(piece, visiting_around(chance))
                    told[result[0]] = told.get(result[0], 0) + 1
                self.compare(piece, random_around(chance), chance.randrange(4))
        self.assertGreater(min(told["done"], told["faulted"], told["never"]), 30)


if __name__ == "__main__":
    unittest.main()
