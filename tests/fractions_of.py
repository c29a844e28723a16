"""Numbers and fractions, for tests that reckon by themselves."""

from fractions import Fraction


def number(value):
    """Return the number for a fraction."""
    value = Fraction(value)
    return value.numerator if value.denominator == 1 else (value.numerator, value.denominator)


def fraction(value):
    """Return the fraction for a number."""
    return Fraction(value) if isinstance(value, int) else Fraction(*value)


def fractions(values):
    """Return the fractions for some numbers."""
    return [fraction(value) for value in values]


def product(row, other):
    """Return the sum of the products of fractions at the same index."""
    return sum((here * there for here, there in zip(row, other, strict=True)), Fraction(0))


def listed(value):
    """Return the value with lists in the place of tuples, all the way in."""
    return [listed(item) for item in value] if isinstance(value, (list, tuple)) else value
