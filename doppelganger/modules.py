"""Modules: operations with hidden variables, their pieces and texts ([7.1] to [7.5])."""

from doppelganger.errors import BadForm, NotAllowed, TooLarge
from doppelganger.names import bound_nodes, check_use
from doppelganger.reader import Reader, check_different
from doppelganger.terms import KINDS, WIDTH, is_name_value, is_short_tuple, is_term, is_too_large, is_tuple_of
from doppelganger.words import BRACKETS
from doppelganger.writer import term_text

MAX_HIDDEN = 3
MAX_OPERATIONS = 2
MAX_MODULE_TEXT = 5900
CALL = "call"


def is_value(value):
    """Tells whether a value of any kind is a number of the language."""
    return isinstance(value, int) and 0 <= value < WIDTH


def is_variable(value):
    """Tells whether a value is a hidden variable."""
    return is_tuple_of(value, 2) and is_name_value(value[0]) and value[0] != CALL and is_value(value[1])


def is_operation(value):
    """Tells whether a value is an operation."""
    if not is_tuple_of(value, 3):
        return False
    name, kind, term = value
    return is_name_value(name) and kind in KINDS and is_term(term, kind)


def is_module(value):
    """Tells whether a value is shaped as a module."""
    if not is_tuple_of(value, 2):
        return False
    variables, operations = value
    if not is_short_tuple(variables, MAX_HIDDEN) or not all([is_variable(item) for item in variables]):
        return False
    if not is_short_tuple(operations, MAX_OPERATIONS) or not all([is_operation(item) for item in operations]):
        return False
    if operations == ():
        return False
    names = [item[0] for item in variables + operations]
    return len(set(names)) == len(names)


def with_variables(variables, term):
    """Returns a term within the variables, which are pairs (name, value); the first one is outermost."""
    for name, value in reversed(variables):
        term = ("new", name, ("num", value), term)
    return term


def check_module(module):
    """Raises an error if a module is not sound."""
    if not is_module(module):
        raise NotAllowed("not shaped as a module")
    variables, operations = module
    for _, kind, term in operations:
        # The operations are looked at without `call` around them, which they must not use.
        for node_kind, node, bindings in bound_nodes(((), kind, with_variables(variables, term))):
            check_use(node_kind, node, bindings)
    _, kind, term = piece_of(module)
    if is_too_large(term, kind):
        raise TooLarge("the piece of the module has too many nodes or levels")


def piece_of(module):
    """Returns the piece of a module."""
    variables, operations = module
    kinds = tuple([kind for _, kind, _ in operations])
    args = tuple([(kind, term) for _, kind, term in operations])
    return (((CALL, kinds, "com"),), "com", with_variables(variables, ("call", CALL, args)))


def first_state(module):
    """Returns the state with the values with which the variables begin."""
    return tuple([value for _, value in module[0]])


def operation_text(operation):
    """Returns the text of an operation."""
    name, kind, term = operation
    opening, closing = BRACKETS[kind]
    return f"{name} : {kind} {opening} {term_text(term, kind)} {closing}"


def module_text(module):
    """Returns the text of a module."""
    variables, operations = module
    front = "".join([f"new {name} = {value}; " for name, value in variables])
    return front + "; ".join([operation_text(operation) for operation in operations])


def read_variables(reader):
    """Reads the variables of a module."""
    found = []
    while reader.takes("new"):
        name = reader.read_name()
        reader.need("=")
        value = reader.read_one_of([str(number) for number in range(WIDTH)])
        reader.need(";")
        found.append((name, int(value)))
    return tuple(found)


def read_operation(reader, scope):
    """Reads an operation."""
    name = reader.read_name()
    reader.need(":")
    kind = reader.read_one_of(KINDS)
    return (name, kind, reader.read_part(kind, scope))


def read_operations(reader, scope):
    """Reads the operations of a module, with nothing behind them."""
    found = [read_operation(reader, scope)]
    while reader.takes(";"):
        found.append(read_operation(reader, scope))
    reader.need_end()
    return tuple(found)


def read_module(text):
    """Returns the module of a text."""
    if len(text) > MAX_MODULE_TEXT:
        raise BadForm(f"the text has more than {MAX_MODULE_TEXT} characters")
    reader = Reader(text)
    variables = read_variables(reader)
    operations = read_operations(reader, {name: True for name, _ in variables})
    if len(variables) > MAX_HIDDEN or len(operations) > MAX_OPERATIONS:
        raise BadForm("there are too many variables or operations")
    check_different(variables + operations)
    module = (variables, operations)
    check_module(module)
    return module
