"""Rays and walls of vectors, reckoned by determinants."""

from itertools import combinations
from math import gcd


def determinant(rows):
    """Return the determinant of rows of integers."""
    rows, sign, last = [list(row) for row in rows], 1, 1
    for at in range(len(rows)):
        pivot = next((index for index in range(at, len(rows)) if rows[index][at]), None)
        if pivot is None:
            return 0
        if pivot != at:
            rows[at], rows[pivot], sign = rows[pivot], rows[at], -sign
        for row in rows[at + 1:]:
            for column in range(at + 1, len(rows)):
                row[column] = (row[column] * rows[at][at] - row[at] * rows[at][column]) // last
        last = rows[at][at]
    return sign * last


def rank(rows):
    """Return how many of the rows are no sums of others, times numbers."""
    rows, found = [list(row) for row in rows], 0
    for column in range(len(rows[0]) if rows else 0):
        pivot = next((row for row in rows if row[column]), None)
        if pivot is None:
            continue
        rows.remove(pivot)
        rows = [[here * pivot[column] - there * row[column] for here, there in zip(row, pivot)] for row in rows]
        found += 1
    return found


def lowest(row):
    """Return the row divided by the greatest integer that divides all of it."""
    common = gcd(*row)
    return tuple(number // common for number in row)


def product(row, other):
    """Return the product of two rows."""
    return sum(here * there for here, there in zip(row, other, strict=True))


def across(rows):
    """Return a row that has the product 0 with each of these, one fewer than numbers in each; by cofactors."""
    wide = len(rows) + 1
    return [(-1) ** at * determinant([row[:at] + row[at + 1:] for row in rows]) for at in range(wide)]


def walls_by_determinants(vectors):
    """Return the walls of vectors, or None if they hold a straight line or have no inner points."""
    vectors = [tuple(row) for row in vectors]
    wide = len(vectors[0])
    if rank(vectors) < wide:
        return None
    found = set()
    for rows in combinations(sorted(set(vectors)), wide - 1):
        wall = across(rows)
        products = [product(wall, row) for row in vectors]
        if any(wall) and min(products) >= 0:
            found.add(lowest(wall))
        if any(wall) and max(products) <= 0:
            found.add(lowest([-number for number in wall]))
    return tuple(sorted(found)) if rank(sorted(found)) == wide else None


def rays_by_determinants(vectors):
    """Return the rays of vectors: those that are alone on some walls which leave one direction."""
    walls = walls_by_determinants(vectors)
    if walls is None:
        return None
    wide = len(walls[0])
    return tuple(sorted({lowest(row) for row in vectors
                         if rank([wall for wall in walls if product(wall, row) == 0]) == wide - 1}))
