"""The instructions of which code consists ([8.1], [8.3])."""

from doppelganger.terms import MAX_ARGS, WIDTH

MAX_CODE = 600
MAX_STACK = 40

# For each word what the integers behind it are; behind those of a call stand places.
FORMS = {
    "end": (),
    "fault": (),
    "stop": (),
    "push": ("number",),
    "pop": (),
    "open": (),
    "close": (),
    "load": ("index",),
    "store": ("index",),
    "add": (),
    "sub": (),
    "mul": (),
    "equal": (),
    "less": (),
    "jump": ("place",),
    "jzero": ("place",),
    "call": ("index", "truth", "count"),
    "block": ("place",),
    "unblock": (),
    "exit": ("index",),
}


def fields_of(instruction):
    """Returns what each of the integers of an instruction has to be."""
    fields = FORMS[instruction[0]]
    if instruction[0] == "call":
        return fields + ("place",) * (len(instruction) - 1 - len(fields))
    return fields


def most_of(field, size):
    """Returns the greatest integer that may stand in a field, in code of so many instructions."""
    if field == "number":
        return WIDTH - 1
    if field == "place":
        return size - 1
    if field == "truth":
        return 1
    if field == "count":
        return MAX_ARGS
    return MAX_CODE


def is_instruction(value, size):
    """Tells whether a value is an instruction, in code of so many instructions."""
    if not isinstance(value, tuple) or value == () or not isinstance(value[0], str) or value[0] not in FORMS:
        return False
    fields = fields_of(value)
    if len(value) != len(fields) + 1 or len(fields) > len(FORMS[value[0]]) + MAX_ARGS:
        return False
    return all([isinstance(item, int) and 0 <= item <= most_of(field, size) for item, field in zip(value[1:], fields)])


def is_code(code):
    """Tells whether a list is well formed code."""
    if not 1 <= len(code) <= MAX_CODE:
        return False
    return all([is_instruction(instruction, len(code)) for instruction in code])
