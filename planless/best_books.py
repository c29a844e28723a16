"""Books of both sides that neither can better."""

from planless.books import Book, choice_counts, first_row
from planless.conditions import Conditions
from planless.descent import Descent
from planless.numbers import made, multiplied, on_one_line, over, precedes, sum_of
from planless.pieces import choosing_ways, place_at
from planless.sums import constant, sum_by


def shares(numbers):
    """Return what part each number is of all together; if all are 0 the first one has all."""
    total = sum_of(numbers)
    return first_row(len(numbers)) if total == 0 else [over(number, total) for number in numbers]


class Lowest:
    """What the keeper and the rival do where a goal, a sum of limits, is as little as can be."""

    def __init__(self, conditions, goal, is_enough):
        descent = Descent(conditions.rows, goal)
        descent.settle(is_enough)
        self.value = descent.reached()
        # The goal grows with what a choice of the rival brings less as often as this choice is taken.
        self.numbers = {conditions.names[unknown]: number
                        for side, numbers in (("keeper", descent.amounts()), ("rival", descent.prices()))
                        for unknown, number in numbers.items() if conditions.names[unknown][0] == side}

    def shares_at(self, side, way, hand, many):
        """Return the chances of so many choices of a hand."""
        return shares([self.numbers.get((side, way, hand, choice), 0) for choice in range(many)])

    def book_of(self, piece, side):
        """Return the book of a side."""
        chances = []
        for way in choosing_ways(piece, side):
            counts = choice_counts(place_at(piece, way))
            chances.append([self.shares_at(side, way, hand, many) for hand, many in enumerate(counts)])
        return Book(piece, side, chances)


def best_books(piece, reach, rival_reach):
    """Return the worth of a piece, and books of the keeper and of the rival that show it."""
    own, line = on_one_line(reach)
    others, rival_line = on_one_line(rival_reach)
    conditions = Conditions()
    limits = conditions.limits_at(piece, (), [constant(number) for number in own], [number > 0 for number in others])
    lowest = Lowest(conditions, sum_by(list(zip(limits, others))), False)
    number = multiplied(lowest.value, made(1, line * rival_line))
    return number, lowest.book_of(piece, "keeper"), lowest.book_of(piece, "rival")


def holding(piece, reach, limits):
    """Return whether a stand can be held, and what shows it.

    This is a book of the keeper, or a rival reach that sums to 1 and a book of the rival.
    """
    # As integers they can be long; but then only they are, as their lines do not come into the rows.
    numbers, _ = on_one_line([*reach, *limits])
    sums = [constant(number) for number in numbers]
    conditions = Conditions()
    earned = conditions.limits_at(piece, (), sums[:len(reach)], [True for _ in limits])
    above = [sum_by([(terms, 1), (limit, -1)]) for terms, limit in zip(earned, sums[len(reach):])]
    # Ahead of the piece, where no way leads, the rival chooses the hand that earns most above its limit.
    lowest = Lowest(conditions, conditions.limit_over(None, 0, above), True)
    if precedes(0, lowest.value):
        return False, (lowest.shares_at("rival", None, 0, len(limits)), lowest.book_of(piece, "rival"))
    return True, lowest.book_of(piece, "keeper")
