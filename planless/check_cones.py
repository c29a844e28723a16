"""Whether papers about stands and worths are right; told by books alone."""

from planless.answers import best_limits, floors
from planless.arguments import check_reaches, check_stand
from planless.books import is_book
from planless.checks import is_number, is_weights
from planless.cones import Broken, Held
from planless.numbers import added, are_within, matched_sum, precedes
from planless.worths import Worth


def shows_held(piece, reach, limits, told):
    """Tell whether a Held is right."""
    if not is_book(told.book, piece, "keeper"):
        return False
    return are_within(best_limits(piece, told.book, reach), limits)


def shows_broken(piece, reach, limits, told):
    """Tell whether a Broken is right."""
    if not is_weights(told.rival_reach, piece.rival_hands) or added(told.rival_reach) != 1:
        return False
    if not is_book(told.book, piece, "rival"):
        return False
    paid = matched_sum(floors(piece, told.book, told.rival_reach), reach)
    return precedes(matched_sum(limits, told.rival_reach), paid)


def shows_holds(piece, reach, limits, value):
    """Tell whether the value shows that a stand is held, or that it cannot be."""
    check_stand(piece, reach, limits)
    name = value.__class__.__name__
    # Only what these very classes made is such a paper, not what a class below them made.
    if isinstance(value, Held) and name == "Held":
        return shows_held(piece, reach, limits, value)
    if isinstance(value, Broken) and name == "Broken":
        return shows_broken(piece, reach, limits, value)
    return False


def shows_worth(piece, reach, rival_reach, value):
    """Tell whether the value is a Worth by whose two books neither side can do better."""
    check_reaches(piece, reach, rival_reach)
    if not isinstance(value, Worth) or value.__class__.__name__ != "Worth":
        return False
    if not is_number(value.number) or not is_book(value.book, piece, "keeper"):
        return False
    if not is_book(value.rival_book, piece, "rival"):
        return False
    most = matched_sum(best_limits(piece, value.book, reach), rival_reach)
    fewest = matched_sum(floors(piece, value.rival_book, rival_reach), reach)
    return most == value.number and fewest == value.number
