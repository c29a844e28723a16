"""Sums of unknowns, each times a number: dicts that tell the number of each unknown.

Unknowns are integers. The unknown ONE is 1: its number is what a sum has by itself.
"""

from planless.numbers import added, multiplied

ONE = 0


def sum_by(weighted):
    """Return the sum of some sums, each times the number beside it."""
    found = {}
    for terms, factor in weighted:
        for unknown, number in terms.items():
            found.setdefault(unknown, []).append(multiplied(number, factor))
    totals = {unknown: added(numbers) for unknown, numbers in found.items()}
    return {unknown: total for unknown, total in totals.items() if total != 0}


def constant(number):
    """Return the sum that is a number, whatever the unknowns are."""
    return {ONE: number} if number != 0 else {}
