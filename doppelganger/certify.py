"""Certificates that two pieces are the same ([5.7])."""

from doppelganger.relate import check_relation, relation
from doppelganger.same import machines_of


def certify(first, second):
    """Returns the least relation that shows that two pieces are the same."""
    one, other = machines_of(first, second)
    return relation(one, other)


def check_certificate(first, second, pairs):
    """Raises an error if a list of pairs does not show that two pieces are the same."""
    one, other = machines_of(first, second)
    check_relation(one, other, pairs)
