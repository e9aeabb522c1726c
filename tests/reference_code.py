"""The rules of [8.1] to [8.6], written down once more: code by recursion, and runs with errors for what cannot be done."""

from reference_plays import unfolded
from reference_runs import OPERATORS


class Coder:
    """Makes the code of an unfolded term, and counts along the code what is there."""

    def __init__(self, piece):
        decls, kind, _ = piece
        self.names = [name for name, _, _ in decls]
        self.code = []
        self.most = {"numbers": 0, "variables": 0, "marks": 0}
        term, _ = unfolded(piece)
        self.argument(term, kind, [], [], 0)

    def emit(self, *instruction):
        self.code.append(instruction)
        return len(self.code) - 1

    def patch(self, at):
        self.code[at] = (self.code[at][0], len(self.code))

    def there(self, what, count):
        self.most[what] = max(self.most[what], count)

    def argument(self, term, kind, variables, marks, numbers):
        self.gen(term, variables, marks, numbers)
        if kind == "com":
            self.emit("push", 0)
            self.there("numbers", numbers + 1)
        self.emit("end")

    def gen(self, term, variables, marks, numbers):
        word = term[0]
        if word in OPERATORS:
            self.gen(term[1], variables, marks, numbers)
            self.gen(term[2], variables, marks, numbers + 1)
            self.emit(word)
        else:
            getattr(self, f"gen_{word}")(term, variables, marks, numbers)

    def gen_skip(self, *_):
        pass

    def gen_stop(self, *_):
        self.emit("stop")

    def gen_fault(self, *_):
        self.emit("fault")

    def gen_num(self, term, variables, marks, numbers):
        self.emit("push", term[1])
        self.there("numbers", numbers + 1)

    def gen_read(self, term, variables, marks, numbers):
        self.emit("load", variables.index(term[1]))
        self.there("numbers", numbers + 1)

    def gen_set(self, term, variables, marks, numbers):
        self.gen(term[2], variables, marks, numbers)
        self.emit("store", variables.index(term[1]))

    def gen_seq(self, term, variables, marks, numbers):
        self.gen(term[1], variables, marks, numbers)
        self.gen(term[2], variables, marks, numbers)

    gen_do = gen_seq

    def gen_if(self, term, variables, marks, numbers):
        self.gen(term[1], variables, marks, numbers)
        no = self.emit("jzero", None)
        self.gen(term[2], variables, marks, numbers)
        behind = self.emit("jump", None)
        self.patch(no)
        self.gen(term[3], variables, marks, numbers)
        self.patch(behind)

    def gen_while(self, term, variables, marks, numbers):
        again = len(self.code)
        self.gen(term[1], variables, marks, numbers)
        no = self.emit("jzero", None)
        self.gen(term[2], variables, marks, numbers)
        self.emit("jump", again)
        self.patch(no)

    def gen_new(self, term, variables, marks, numbers):
        self.gen(term[2], variables, marks, numbers)
        self.emit("open")
        self.there("variables", len(variables) + 1)
        self.gen(term[3], variables + [term[1]], marks, numbers)
        self.emit("close")

    def gen_block(self, term, variables, marks, numbers):
        mark = self.emit("block", None)
        self.there("marks", len(marks) + 1)
        self.gen(term[2], variables, marks + [term[1]], numbers)
        self.emit("unblock")
        self.patch(mark)

    def gen_exit(self, term, variables, marks, numbers):
        self.emit("exit", marks.index(term[1]))

    def gen_call(self, term, variables, marks, numbers):
        (name, types, result), args = term[1], term[2]
        starts, jump = [], None
        for of_type, (kind, arg) in zip(types, args):
            if of_type != "val":
                if jump is None:
                    jump = self.emit("jump", None)
                starts.append(len(self.code))
                self.argument(arg, kind, variables, marks, numbers)
        if jump is not None:
            self.patch(jump)
        values = [arg for of_type, (_, arg) in zip(types, args) if of_type == "val"]
        for at, arg in enumerate(values):
            self.gen(arg, variables, marks, numbers + at)
        self.emit("call", self.names.index(name), int(result == "com"), len(values), *starts)
        self.there("numbers", numbers + 1)
        if result == "com":
            self.emit("pop")


class End(Exception):
    def __init__(self, result, value=0):
        super().__init__()
        self.result = (result, value)


class Open:
    """A question, which has its own things or those of another one, or a call."""

    def __init__(self, own, **more):
        self.numbers, self.variables, self.marks = own
        self.__dict__.update(more)


class Pair:
    """Runs code and the code around it, by errors where something cannot be done."""

    def __init__(self, code, around, entry):
        self.code, self.around, self.entry = code, around, entry
        self.a, self.cells, self.steps, self.open = 0, [0, 0, 0, 0], 0, []

    def result(self):
        """The result, or "pairs" or "instructions" if there are too many of them."""
        at = 0
        try:
            while True:
                at = self.pair(at)
        except End as end:
            return end.result + (self.steps,)
        except OverflowError as error:
            return str(error)

    def pair(self, at):
        """Begins a pair, and returns the index of the next one."""
        if at not in range(len(self.around)):
            raise End("faulted")
        if self.steps == 20000:
            raise OverflowError("pairs")
        self.steps += 1
        operation, x = self.around[at]
        if operation not in range(14):
            raise End("faulted")
        found = getattr(self, f"pair_{operation}")(x, at + 1)
        return at + 1 if found is None else found

    def waiting(self):
        if not self.open:
            raise End("faulted")
        return self.open[-1]

    def pair_0(self, x, behind):
        raise End("faulted" if self.open else "done", 0 if self.open else self.a)

    def pair_1(self, x, behind):
        raise End("faulted")

    def pair_2(self, x, behind):
        if sum(each.sort == "piece" for each in self.open) == 24:
            raise End("faulted")
        self.open.append(Open(([], [], []), sort="piece", behind=behind))
        return self.inside(0)

    def pair_3(self, x, behind):
        call = self.waiting()
        if self.a not in ((0,) if call.instruction[2] else (0, 1, 2)):
            raise End("faulted")
        self.open.pop()
        self.open[-1].numbers.append(self.a)
        return self.inside(call.place + 1)

    def pair_4(self, x, behind):
        call = self.waiting()
        if x not in range(1, len(call.instruction) - 3):
            raise End("faulted")
        self.open.append(Open((call.numbers, call.variables, call.marks), sort="argument", behind=behind))
        return self.inside(call.instruction[3 + x])

    def pair_5(self, x, behind):
        self.a = x % 256

    def pair_6(self, x, behind):
        self.a = self.cells[x % 4]

    def pair_7(self, x, behind):
        self.cells[x % 4] = self.a

    def pair_8(self, x, behind):
        self.a = (self.a + x) % 256

    def pair_9(self, x, behind):
        return x

    def pair_10(self, x, behind):
        return x if self.a == 0 else behind

    def pair_11(self, x, behind):
        self.a = (self.open[-1].instruction[1] + 1) % 256 if self.open else 0

    def pair_12(self, x, behind):
        values = self.waiting().values
        if x not in range(1, len(values) + 1):
            raise End("faulted")
        self.a = values[x - 1]

    def pair_13(self, x, behind):
        last = [at for at, each in enumerate(self.open) if each.sort == "piece"]
        if not last:
            raise End("faulted")
        self.open = self.open[:last[-1]]

    def inside(self, place):
        """Runs the piece until it makes a move, and returns the index at which the code around goes on."""
        begun = []
        while place in range(len(self.code)):
            own = self.open[-1]
            if max(map(len, (own.numbers, own.variables, own.marks))) > 40:
                break
            now = (place, own, list(own.numbers), list(own.variables), list(own.marks))
            if len(begun) == 2000:
                raise OverflowError("instructions")
            if any(each == now for each in reversed(begun)):
                raise End("never")
            begun.append(now)
            try:
                found = self.instruction(own, place)
            except (IndexError, ValueError):
                break
            if isinstance(found, tuple):
                return found[0]
            place = place + 1 if found is None else found
        raise End("faulted")

    def instruction(self, own, place):
        """Does what an instruction says; returns the next place, or a tuple of the next index around, or None."""
        word, *entries = self.code[place]
        numbers = own.numbers
        if word in OPERATORS:
            right, left = numbers.pop(), numbers.pop()
            numbers.append(OPERATORS[word](left, right))
        elif word in ("stop", "fault"):
            raise End({"stop": "never", "fault": "faulted"}[word])
        elif word == "end":
            self.a = numbers.pop()
            return (self.open.pop().behind,)
        elif word == "push":
            numbers.append(entries[0])
        elif word == "pop":
            numbers.pop()
        elif word == "open":
            own.variables.append(numbers.pop())
        elif word == "close":
            own.variables.pop()
        elif word == "load":
            numbers.append(own.variables[entries[0]])
        elif word == "store":
            own.variables[entries[0]] = numbers.pop()
        elif word == "jump":
            return entries[0]
        elif word == "jzero":
            return entries[0] if numbers.pop() == 0 else None
        elif word == "block":
            own.marks.append((len(numbers), len(own.variables), own, entries[0]))
        elif word == "unblock":
            own.marks.pop()
        elif word == "exit":
            return self.leave(own, entries[0])
        elif word == "call":
            values = [numbers.pop() for _ in range(entries[2])][::-1]
            call = Open((numbers, own.variables, own.marks), sort="call", values=values, place=place, instruction=self.code[place])
            self.open.append(call)
            self.a = (entries[0] + 1) % 256
            return (self.entry,)
        return None

    def leave(self, own, number):
        many, variables, question, place = own.marks[number]
        if len(own.numbers) < many or len(own.variables) < variables:
            raise IndexError
        self.open = self.open[:self.open.index(question) + 1]
        del own.numbers[many:]
        del own.variables[variables:]
        del own.marks[number:]
        return place


def result_of(code, around, entry):
    """What `run_code` returns, or "pairs" or "instructions" if there are too many of them."""
    return Pair(code, around, entry).result()
