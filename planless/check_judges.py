"""Whether papers of judges are right."""

from planless.answers import best_limits, floors, pay
from planless.books import check_book, is_book
from planless.judges import Beaten, Unbeaten, check_game, fits
from planless.numbers import precedes


def shows_unbeaten(game, book, told):
    """Tell whether an Unbeaten is right."""
    if not fits(game, book, (1,), told.limits) or not is_book(told.rival_book, game, "rival"):
        return False
    return not precedes(floors(game, told.rival_book, (1,))[0], told.limits[0][0])


def shows_beaten(game, book, told):
    """Tell whether a Beaten is right."""
    if not is_book(told.rival_book, game, "rival") or not is_book(told.book, game, "keeper"):
        return False
    return precedes(best_limits(game, told.book, (1,))[0], pay(game, book, told.rival_book, (1,), (1,)))


def shows_judged(game, book, value):
    """Tell whether the value shows that the book of a game is unbeaten, or that it is beaten."""
    check_game(game)
    check_book(book, game, "keeper", "book")
    name = value.__class__.__name__
    # Only what these very classes made is such a paper, not what a class below them made.
    if isinstance(value, Unbeaten) and name == "Unbeaten":
        return shows_unbeaten(game, book, value)
    if isinstance(value, Beaten) and name == "Beaten":
        return shows_beaten(game, book, value)
    return False
