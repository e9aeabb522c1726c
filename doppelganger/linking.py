"""Linking modules with their clients ([7.9])."""

from doppelganger.errors import BadKind, BadName, TooLarge
from doppelganger.modules import with_variables
from doppelganger.terms import is_too_large


def check_client(module, client):
    """Raises an error if a piece is not a client of a module."""
    decls, kind, _ = client
    kinds = {name: kind_of_operation for name, kind_of_operation, _ in module[1]}
    for name, _, _ in decls:
        if name not in kinds:
            raise BadName(f"{name} is not an operation of the module")
    if kind != "com":
        raise BadKind("the client is not a command")
    for name, types, result in decls:
        if types or result != kinds[name]:
            raise BadKind(f"{name} is not declared as the operation is")


def link(module, client):
    """Returns the closed piece in which a client uses a module."""
    check_client(module, client)
    variables, operations = module
    term = client[2]
    for name, kind, body in reversed(operations):
        term = ("proc", name, (), kind, body, term)
    term = with_variables(variables, term)
    if is_too_large(term, "com"):
        raise TooLarge("the linked piece has too many nodes or levels")
    return ((), "com", term)
