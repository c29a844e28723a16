"""Whether papers about pieces that are compared are right."""

from planless.best_books import best_books
from planless.checks import is_number
from planless.compared import Alike, NeverWorse, Unlike, Worse, check_comparable, ray_outside
from planless.cone_rows import cone_at
from planless.errors import TooMany
from planless.frames import filled, has_hands
from planless.numbers import precedes
from planless.pieces import is_frame


def does_frame(frame, piece):
    """Tell whether the value is a frame that makes a game of a piece."""
    if not is_frame(frame) or not has_hands(frame, piece) or (frame.keeper_hands, frame.rival_hands) != (1, 1):
        return False
    try:
        filled(frame, piece)
    except TooMany:
        return False
    return True


def are_worths(one, other, told):
    """Tell whether a paper has a frame that makes games of both pieces, and their worths."""
    if not is_number(told.worth) or not is_number(told.other_worth):
        return False
    if not does_frame(told.frame, one) or not does_frame(told.frame, other):
        return False
    if best_books(filled(told.frame, one), (1,), (1,))[0] != told.worth:
        return False
    return best_books(filled(told.frame, other), (1,), (1,))[0] == told.other_worth


def shows_compared(one, other, value):
    """Tell whether the value shows that two pieces are alike, or unlike."""
    check_comparable(one, other)
    name = value.__class__.__name__
    # Only what these very classes made is such a paper, not what a class below them made.
    if isinstance(value, Alike) and name == "Alike":
        return cone_at(one) == cone_at(other)
    if isinstance(value, Unlike) and name == "Unlike":
        return value.worth != value.other_worth and are_worths(one, other, value)
    return False


def shows_never_worse(one, other, value):
    """Tell whether the value shows that one piece is never worth more than another one, or that it once is."""
    check_comparable(one, other)
    name = value.__class__.__name__
    if isinstance(value, NeverWorse) and name == "NeverWorse":
        return ray_outside(cone_at(other), cone_at(one)) is None
    if isinstance(value, Worse) and name == "Worse":
        return are_worths(one, other, value) and precedes(value.other_worth, value.worth)
    return False
