"""Rays and walls of what vectors make."""

from planless.checks import is_integer, is_list
from planless.errors import BadNumber, Misfit
from planless.hulls import hulled, lowest

MOST_VECTORS = 40
FEWEST_INTEGERS = 2
MOST_INTEGERS = 8


def is_vector(value, many):
    """Tell whether the value is a list of so many integers, not all 0."""
    if not is_list(value) or len(value) != many:
        return False
    return all([is_integer(number) for number in value]) and any([number != 0 for number in value])


def are_vectors(value):
    """Tell whether the value is a list of vectors that have as many integers."""
    if not is_list(value) or not 1 <= len(value) <= MOST_VECTORS or not is_list(value[0]):
        return False
    many = len(value[0])
    return FEWEST_INTEGERS <= many <= MOST_INTEGERS and all([is_vector(row, many) for row in value])


def rows_around(vectors):
    """Return the rays and the walls of what vectors make."""
    if not are_vectors(vectors):
        raise BadNumber("vectors")
    found = hulled(sorted({lowest(row) for row in vectors}))
    if found is None:
        raise Misfit("vectors")
    return found


def walls_of(vectors):
    """Return the walls of what vectors make."""
    return rows_around(vectors)[1]


def least_of(vectors):
    """Return the rays of what vectors make."""
    return rows_around(vectors)[0]
