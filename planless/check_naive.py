"""Whether papers about guesses are right; told by books alone."""

from planless.answers import best_limits, floors
from planless.books import is_book
from planless.checks import is_list, is_number, is_within
from planless.naive import Robbed, Safe, check_guess, raised_guess
from planless.numbers import matched_sum, minus, multiplied, precedes


def does_bound(piece, reach, guess, total, hand, limit, row):
    """Tell whether a number and a rival's book show that a hand earns at most its limit by the best books.

    total is what some book of the keeper pays against the guess.
    """
    if not is_list(row) or len(row) != 2 or not is_number(row[0]) or not is_book(row[1], piece, "rival"):
        return False
    factor, rival_book = row
    if precedes(multiplied(factor, guess[hand]), 1):
        return False
    fewest = matched_sum(reach, floors(piece, rival_book, raised_guess(guess, factor, hand)))
    return not precedes(limit, minus(multiplied(factor, total), fewest))


def shows_safe(piece, reach, limits, guess, told):
    """Tell whether a Safe is right."""
    if not is_book(told.book, piece, "keeper") or not is_list(told.rows) or len(told.rows) != len(limits):
        return False
    total = matched_sum(guess, best_limits(piece, told.book, reach))
    return all([does_bound(piece, reach, guess, total, hand, limit, row)
                for hand, (limit, row) in enumerate(zip(limits, told.rows))])


def shows_robbed(piece, reach, limits, guess, told):
    """Tell whether a Robbed is right."""
    if not is_within(told.hand, 0, len(limits) - 1):
        return False
    if not is_book(told.book, piece, "keeper") or not is_book(told.rival_book, piece, "rival"):
        return False
    earned = best_limits(piece, told.book, reach)
    fewest = matched_sum(reach, floors(piece, told.rival_book, guess))
    return not precedes(fewest, matched_sum(guess, earned)) and precedes(limits[told.hand], earned[told.hand])


def shows_naive(piece, reach, limits, guess, value):
    """Tell whether the value shows that a stand is safe with a guess, or that it is not."""
    check_guess(piece, reach, limits, guess)
    name = value.__class__.__name__
    # Only what these very classes made is such a paper, not what a class below them made.
    if isinstance(value, Safe) and name == "Safe":
        return shows_safe(piece, reach, limits, guess, value)
    if isinstance(value, Robbed) and name == "Robbed":
        return shows_robbed(piece, reach, limits, guess, value)
    return False
