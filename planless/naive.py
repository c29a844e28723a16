"""Players that only guess how often each of the rival's hands is there, and where they can be robbed."""

from planless.answers import best_limits
from planless.arguments import check_stand
from planless.best_books import best_books
from planless.checks import is_weights
from planless.errors import BadNumber
from planless.numbers import matched_sum, minus, multiplied, over, precedes
from planless.papers import Denial, Paper
from planless.splits import check_held


class Safe(Paper):
    """This book, and for each of the rival's hands a number and a book, show that none earns more than its limit."""

    def __init__(self, book, rows):
        Paper.__init__(self, "safe", book, rows)
        self.book, self.rows = self.parts


class Robbed(Denial):
    """By this book the hand earns more than its limit, and it is best against the guess, as the rival's book shows."""

    def __init__(self, hand, book, rival_book):
        Denial.__init__(self, "robbed", hand, book, rival_book)
        self.hand, self.book, self.rival_book = self.parts


def check_guess(piece, reach, limits, guess):
    """Raise the error for what is no piece, no stand of it, or no guess for it."""
    check_stand(piece, reach, limits)
    if not is_weights(guess, piece.rival_hands) or not all([precedes(0, number) for number in guess]):
        raise BadNumber("guess")


def raised_guess(guess, factor, hand):
    """Return the guess times a factor, with 1 less at a hand."""
    found = [multiplied(factor, number) for number in guess]
    found[hand] = minus(found[hand], 1)
    return found


def most_earned(piece, reach, guess, hand, best):
    """Return the most that a hand of the rival earns by a book that is best against the guess, and what shows it.

    best are the worth for the guess and the books that show it. What shows the most is a best book by
    which the hand earns it, and a factor and a book of the rival by which it earns no more by any.
    """
    value, book, _ = best
    most = best_limits(piece, book, reach)[hand]
    factor = over(1, guess[hand])
    while True:
        # A book that pays more than the worth lets the hand earn the bound, and the excess times the factor, at most.
        total, other_book, rival_book = best_books(piece, reach, raised_guess(guess, factor, hand))
        bound = minus(multiplied(factor, value), total)
        if bound == most:
            return most, book, factor, rival_book
        limits = best_limits(piece, other_book, reach)
        excess = minus(matched_sum(guess, limits), value)
        if excess == 0:
            return bound, other_book, factor, rival_book
        # With this factor the book at hand tells no higher bound than what is sure to be earned.
        factor = over(minus(limits[hand], most), excess)


def naive_safe(piece, reach, limits, guess):
    """Return what shows that a stand is safe with a guess, or that the naive player may be robbed there."""
    check_guess(piece, reach, limits, guess)
    check_held(piece, reach, limits)
    best = best_books(piece, reach, guess)
    rows = []
    for hand, limit in enumerate(limits):
        most, book, factor, rival_book = most_earned(piece, reach, guess, hand, best)
        if precedes(limit, most):
            return Robbed(hand, book, best[2])
        rows.append((factor, rival_book))
    return Safe(best[1], rows)
