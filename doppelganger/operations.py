"""Running the operations of modules ([7.6] to [7.8])."""

from doppelganger.errors import NotAllowed, TooLarge
from doppelganger.modules import first_state, is_value, with_variables
from doppelganger.runs import run
from doppelganger.terms import is_too_large, is_tuple_of

# One more than a module has variables.
SPARE_NAMES = ("q", "qq", "qqq", "qqqq")


def is_state(module, value):
    """Tells whether a value is a state of a module."""
    return is_tuple_of(value, len(module[0])) and all([is_value(item) for item in value])


def check_index(module, index):
    """Raises NotAllowed if a module has no operation with the index."""
    if not 0 <= index < len(module[1]):
        raise NotAllowed(f"there is no operation {index}")


def command_of(kind, term, names):
    """Returns the command that runs an operation and drops its value."""
    if kind == "com":
        return term
    spare = [name for name in SPARE_NAMES if name not in names][0]
    return ("new", spare, term, ("skip",))


def askings(module, index):
    """Returns the expressions of which the values tell what an operation does.

    For an expression the first one has its value. The others have the values of the variables
    behind the operation; without variables a command is run all the same.
    """
    names = [name for name, _ in module[0]]
    _, kind, term = module[1][index]
    command = command_of(kind, term, names)
    found = [("do", command, ("read", name)) for name in names]
    if kind == "exp":
        return [term] + found
    return found or [("do", command, ("num", 0))]


def run_within(names, state, term):
    """Returns the result of an expression within variables that have the values of a state."""
    whole = with_variables(list(zip(names, state)), term)
    if is_too_large(whole, "exp"):
        raise TooLarge("the operation with its variables has too many nodes or levels")
    return run(((), "exp", whole))


def run_operation(module, state, index):
    """Returns the result of an operation in a state, its value, and the state behind it."""
    if not is_state(module, state):
        raise NotAllowed("this is not a state of the module")
    check_index(module, index)
    variables, operations = module
    values = []
    for asking in askings(module, index):
        result, value, _ = run_within([name for name, _ in variables], state, asking)
        if result != "done":
            return (result, 0, ())
        values.append(value)
    if operations[index][1] == "exp":
        return ("done", values[0], tuple(values[1:]))
    return ("done", 0, tuple(values[:len(variables)]))


class Running:
    """Runs the operations of a module, each of them in each state once."""

    def __init__(self, module):
        self.module = module
        self.found = {}

    def behind(self, state, index):
        """Returns what `run_operation` returns."""
        if (state, index) not in self.found:
            self.found[(state, index)] = run_operation(self.module, state, index)
        return self.found[(state, index)]


def history(module, calls):
    """Returns the results and values of operations that are run one after another."""
    for index in calls:
        check_index(module, index)
    running = Running(module)
    state = first_state(module)
    found = []
    for index in calls:
        result, value, state = running.behind(state, index)
        found.append((result, value))
        if result != "done":
            break
    return found
