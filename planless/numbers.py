"""Numbers reckoned, written and read; nothing is rounded."""

from math import gcd, lcm

from planless.checks import is_integer, is_number, is_numbers, is_row
from planless.digits import number_in
from planless.errors import BadNumber, BadText, Misfit
from planless.papers import fixed


def above_below(number):
    """Return what stands above and what stands below the line of a number."""
    if is_integer(number):
        return number, 1
    return number[0], number[1]


def made(above, below):
    """Return the number, in its one form, that two integers make; below is not 0."""
    common = gcd(above, below)
    if below < 0:
        common = -common
    above, below = above // common, below // common
    return above if below == 1 else (above, below)


def on_one_line(numbers):
    """Return integers, and the least line over which they are these numbers."""
    pairs = [above_below(number) for number in numbers]
    line = 1
    for _, below in pairs:
        line = lcm(line, below)
    return [above * (line // below) for above, below in pairs], line


def added(numbers):
    """Return the sum of some numbers."""
    total, line = 0, 1
    for number in numbers:
        above, below = above_below(number)
        common = gcd(line, below)
        total = total * (below // common) + above * (line // common)
        line = line // common * below
    return made(total, line)


def multiplied(one, other):
    """Return the product of two numbers."""
    above, below = above_below(one)
    other_above, other_below = above_below(other)
    return made(above * other_above, below * other_below)


def precedes(one, other):
    """Tell whether one number is less than another."""
    above, below = above_below(one)
    other_above, other_below = above_below(other)
    return above * other_below < other_above * below


def are_within(numbers, bounds):
    """Tell whether no number is above its bound."""
    return not any([precedes(bound, number) for number, bound in zip(numbers, bounds)])


def matched_sum(row, other):
    """Return the sum of the products of what stands at the same index of two rows of numbers."""
    return added([multiplied(here, there) for here, there in zip(row, other)])


def _check_two(one, other):
    if not is_number(one):
        raise BadNumber("one")
    if not is_number(other):
        raise BadNumber("other")


def ratio(above, below):
    """Return the number that two integers make."""
    if not is_integer(above):
        raise BadNumber("above")
    if not is_integer(below) or below == 0:
        raise BadNumber("below")
    return made(above, below)


def plus(one, other):
    """Return the sum of two numbers."""
    _check_two(one, other)
    return added([one, other])


def minus(one, other):
    """Return one number less another."""
    _check_two(one, other)
    return added([one, multiplied(-1, other)])


def times(one, other):
    """Return the product of two numbers."""
    _check_two(one, other)
    return multiplied(one, other)


def over(one, other):
    """Return one number divided by another."""
    _check_two(one, other)
    above, below = above_below(other)
    if above == 0:
        raise Misfit("other")
    return multiplied(one, made(below, above))


def is_less(one, other):
    """Tell whether one number is less than another."""
    _check_two(one, other)
    return precedes(one, other)


def _check_some(values):
    if not is_numbers(values) or len(values) == 0:
        raise BadNumber("values")


def least(values):
    """Return the least of some numbers."""
    _check_some(values)
    found = values[0]
    for value in values:
        if precedes(value, found):
            found = value
    return fixed(found)


def greatest(values):
    """Return the greatest of some numbers."""
    _check_some(values)
    found = values[0]
    for value in values:
        if precedes(found, value):
            found = value
    return fixed(found)


def sum_of(values):
    """Return the sum of a list of numbers."""
    if not is_numbers(values):
        raise BadNumber("values")
    return added(values)


def product_sum(row, other):
    """Return the sum of the products of what stands at the same index."""
    if not is_numbers(row):
        raise BadNumber("row")
    if not is_row(other, len(row)):
        raise BadNumber("other")
    return matched_sum(row, other)


def number_text(value):
    """Return the text of a number, one item."""
    if not is_number(value):
        raise BadNumber("value")
    above, below = above_below(value)
    return str(above) if below == 1 else f"{above}/{below}"


def row_text(numbers):
    """Return the text of some numbers, one item for each."""
    return " ".join([number_text(number) for number in numbers])


def number_of(text):
    """Return the number whose text this is."""
    number = number_in(text) if isinstance(text, str) else None
    if number is None:
        raise BadText(0, 0)
    return number
