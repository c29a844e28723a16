"""The least that a sum of unknowns can be that are nowhere below 0, reckoned in integers alone."""

from math import gcd

from planless.numbers import made, on_one_line
from planless.sums import ONE


def nudge(at):
    """Return a number above 0 for a row, such that few rows have ties."""
    return 7919 * (at + 1) * (at + 1) % 10007 + 1


def common_part(line, numbers):
    """Return the greatest integer that divides the line and all numbers."""
    found = line
    for number in numbers:
        if found == 1:
            return 1
        found = gcd(found, number)
    return found


def is_before(step, other):
    """Tell whether one step, a number and a nudge over a number above 0, is less than another."""
    number, nudged, below = step
    other_number, other_nudged, other_below = other
    return (number * other_below, nudged * other_below) < (other_number * below, other_nudged * below)


class Descent:
    """Unknowns from 0 on that are told by others, which are 0 at the point at hand.

    Each row has an unknown of its own: line times it is the sum of the row's first
    numbers, each times the unknown of its column, and of the last but one. Behind it
    stands a nudge: an endlessly small number that is added, so that unknowns are
    seldom 0 in a row. The last row is the goal, which is to be as little as can be.
    Nothing that is not needed is in a row: no integer divides all its numbers.
    """

    def __init__(self, rows, goal):
        told = [terms for _, terms in rows] + [goal]
        self.own = [unknown for unknown, _ in rows]
        self.others = sorted({unknown for terms in told for unknown in terms if unknown != ONE})
        self.wide = len(self.others)
        self.rows = []
        self.lines = []
        for at, terms in enumerate(told):
            numbers, line = on_one_line([terms.get(unknown, 0) for unknown in [*self.others, ONE]])
            self.rows.append([*numbers, nudge(at)])
            self.lines.append(line)

    def reached(self):
        """Return the goal at the point at hand."""
        return made(self.rows[-1][self.wide], self.lines[-1])

    def amounts(self):
        """Return for each unknown that is told by a row what it is at the point at hand."""
        return {unknown: made(row[self.wide], line)
                for unknown, row, line in zip(self.own, self.rows, self.lines)}

    def prices(self):
        """Return for each unknown of a column by how much the goal grows with it."""
        return {unknown: made(number, self.lines[-1]) for unknown, number in zip(self.others, self.rows[-1])}

    def swap(self, at, column):
        """Let the unknown of a column, below 0 in this row, be told by it, and that of the row have the column."""
        pivot = -self.rows[at][column]
        told = list(self.rows[at])
        told[column] = -self.lines[at]
        for index, row in enumerate(list(self.rows)):
            if index != at and row[column] != 0:
                self.put_into(index, column, told, pivot)
        self.rows[at] = told
        self.lines[at] = pivot
        self.own[at], self.others[column] = self.others[column], self.own[at]

    def put_into(self, at, column, told, pivot):
        """Put what tells the column's unknown, over a line, into the row."""
        factor = self.rows[at][column]
        common = gcd(factor, pivot)
        factor, times = factor // common, pivot // common
        found = [number * times + factor * other for number, other in zip(self.rows[at], told)]
        found[column] = factor * told[column]
        line = self.lines[at] * times
        common = common_part(line, found)
        self.rows[at] = [number // common for number in found] if common > 1 else found
        self.lines[at] = line // common

    def step_in(self, column, order):
        """Return how far the unknown of a column may grow, and the row that bars it then."""
        first, bar = None, None
        for at in order:
            row = self.rows[at]
            if row[column] < 0:
                step = row[self.wide], row[self.wide + 1], -row[column]
                if first is None or is_before(step, first):
                    first, bar = step, at
        return first, bar

    def best_swap(self):
        """Return the row and the column whose swap lowers the goal most; None if none lowers it.

        Where nothing is won by any, this is the first column, and the first row that bars it:
        so no swaps ever lead back.
        """
        order = [at for _, at in sorted([(unknown, at) for at, unknown in enumerate(self.own)])]
        best, found = None, None
        for _, column in sorted([(unknown, column) for column, unknown in enumerate(self.others)]):
            fall = -self.rows[-1][column]
            if fall > 0:
                step, at = self.step_in(column, order)
                gain = fall * step[0], fall * step[1], step[2]
                if best is None or is_before(best, gain):
                    best, found = gain, (at, column)
        return found

    def settle(self, is_enough):
        """Go down until the goal is as little as can be, or, where this is enough, not above 0."""
        while not is_enough or self.rows[-1][self.wide] > 0:
            found = self.best_swap()
            if found is None:
                return
            at, column = found
            self.swap(at, column)
