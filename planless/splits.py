"""Stands parted into stands of the parts of a place."""

from planless.arguments import check_stand
from planless.checks import is_list, is_row, is_weights
from planless.cones import holds
from planless.earnings import all_earned, all_reaches
from planless.errors import Impossible
from planless.hands import by_choice, earned_above, reaches_below
from planless.numbers import added, are_within
from planless.papers import fixed
from planless.pieces import chooses


def check_held(piece, reach, limits):
    """Return the Held of a stand; raise the error of one that cannot be held."""
    told = holds(piece, reach, limits)
    if not told:
        raise Impossible(told)
    return told


def split(piece, reach, limits):
    """Return a split of a stand: stands of the parts that fit it."""
    book = check_held(piece, reach, limits).book
    reaches = all_reaches(book, reach)
    # What each hand earns at best by the book is what the book holds in the parts.
    earned = all_earned(book, reach)
    return tuple([(reaches[(at,)], earned[(at,)]) for at in range(len(piece.parts))])


def is_stand(value, piece):
    """Tell whether the value is a stand of a piece."""
    if not is_list(value) or len(value) != 2:
        return False
    return is_weights(value[0], piece.keeper_hands) and is_row(value[1], piece.rival_hands)


def do_reaches_fit(place, reach, below):
    """Tell whether the reaches of the parts fit the reach of a place."""
    if chooses(place, "keeper"):
        return tuple([added(numbers) for numbers in by_choice(place, below)]) == fixed(reach)
    return fixed(reaches_below(place, "keeper", reach, None)) == fixed(below)


def fits_split(piece, reach, limits, value):
    """Tell whether the value is a split of a stand."""
    check_stand(piece, reach, limits)
    if not is_list(value) or len(value) != len(piece.parts):
        return False
    if not all([is_stand(stand, part) for stand, part in zip(value, piece.parts)]):
        return False
    if piece.KIND == "end":
        return bool(holds(piece, reach, limits))
    if not do_reaches_fit(piece, reach, [stand[0] for stand in value]):
        return False
    if not are_within(earned_above(piece, "keeper", [stand[1] for stand in value]), limits):
        return False
    # A stand whose parts have stands that can be held can be held, too.
    return all([bool(holds(part, stand[0], stand[1])) for stand, part in zip(value, piece.parts)])
