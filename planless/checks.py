"""Whether any value is an integer, a number, a weight, a row or a lot."""

from math import gcd


def is_integer(value):
    """Tell whether the value is an integer; True and False are none."""
    return isinstance(value, int) and not isinstance(value, bool)


def is_within(value, least, most):
    """Tell whether the value is an integer from least to most, None being no bound."""
    for bound in (least, most):
        if bound is not None and not is_integer(bound):
            return False
    if not is_integer(value):
        return False
    return (least is None or least <= value) and (most is None or value <= most)


def is_number(value):
    """Tell whether the value is a number: an integer, or a pair in its one form."""
    if not is_list(value):
        return is_integer(value)
    if len(value) != 2:
        return False
    above, below = value
    return is_integer(above) and is_within(below, 2, None) and gcd(above, below) == 1


def is_weight(value):
    """Tell whether the value is a number from 0 on."""
    if not is_number(value):
        return False
    above = value[0] if is_list(value) else value
    return above >= 0


def is_list(value):
    """Tell whether the value is a list or a tuple."""
    return isinstance(value, (list, tuple))


def is_numbers(value):
    """Tell whether the value is a list of numbers, however many."""
    return is_list(value) and all([is_number(item) for item in value])


def is_row(value, many):
    """Tell whether the value is a list of just so many numbers."""
    return is_integer(many) and is_list(value) and len(value) == many and is_numbers(value)


def is_weights(value, many):
    """Tell whether the value is a list of just so many weights."""
    return is_row(value, many) and all([is_weight(item) for item in value])


def is_lot(value):
    """Tell whether the value is a list of integers that ascend, none twice."""
    if not is_list(value) or not all([is_integer(item) for item in value]):
        return False
    return all([low < high for low, high in zip(value, value[1:])])
