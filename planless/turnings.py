"""Pieces turned into others that are like them."""

from planless.checks import is_weight
from planless.cone_rows import cone_above
from planless.errors import BadNumber, Misfit, TooMany
from planless.lists import check_few_hands
from planless.numbers import multiplied
from planless.pieces import (
    Draw, End, KeeperHides, KeeperShows, RivalHides, RivalSees, RivalShows, check_piece, place_at, ways)
from planless.places import MOST_HANDS, check_size

MOST_OPENED_PARTS = 4


def is_opened(place):
    """Tell whether a place becomes two when it is opened."""
    return place.KIND in ("draw", "move")


def knowing_hands(place):
    """Return how many hands the side has that would see the part of a move or a draw before it is shown."""
    return place.keeper_hands if place.SIDE == "keeper" else place.rival_hands


def check_opened(piece):
    """Raise the error of a piece that is too great to be opened."""
    places = [place_at(piece, way) for way in ways(piece)]
    found = [place for place in places if is_opened(place)]
    if any([len(place.parts) > MOST_OPENED_PARTS for place in found]):
        raise TooMany("parts", MOST_OPENED_PARTS)
    if any([knowing_hands(place) * len(place.parts) > MOST_HANDS for place in found]):
        raise TooMany("hands", MOST_HANDS)
    # Places are counted ahead: within the whole a place would be told for its levels first.
    check_size(piece.many + len(found), piece.levels)


def opened_above(place, parts):
    """Return what a move or a draw becomes, with parts that are opened."""
    hands, many = knowing_hands(place), len(parts)
    lots = [[hand * many + at for hand in range(hands)] for at in range(many)]
    counts = [many for _ in range(hands)]
    if place.KIND == "draw":
        return RivalSees([place.weights for _ in range(hands)], RivalShows(lots, parts))
    if place.SIDE == "keeper":
        return KeeperHides(counts, KeeperShows(lots, parts))
    return RivalHides(counts, RivalShows(lots, parts))


def opened_place(place):
    """Return a place that is opened, all the way in."""
    if place.KIND == "end":
        return place
    parts = [opened_place(part) for part in place.parts]
    return opened_above(place, parts) if is_opened(place) else place.with_parts(parts)


def opened(piece):
    """Return the piece with draws that the rival alone sees, and choices that are hidden, and then shown."""
    check_piece(piece, "piece")
    check_opened(piece)
    return opened_place(piece)


def with_used_parts(place, cones):
    """Return a move without the parts that are of no use, and its cone; the cones of its parts are told."""
    left, left_cones, cone = place, cones, cone_above(place, cones)
    for at in reversed(range(len(cones))):
        if len(left_cones) > 1:
            fewer = left.with_parts(left.parts[:at] + left.parts[at + 1:])
            fewer_cones = left_cones[:at] + left_cones[at + 1:]
            if cone_above(fewer, fewer_cones) == cone:
                left, left_cones = fewer, fewer_cones
    return left, cone


def trimmed_at(place):
    """Return a place that is trimmed, all the way in, and its cone."""
    if place.KIND == "end":
        return place, cone_above(place, [])
    found = [trimmed_at(part) for part in place.parts]
    left, cones = place.with_parts([part for part, _ in found]), [cone for _, cone in found]
    return with_used_parts(left, cones) if place.KIND == "move" else (left, cone_above(left, cones))


def trimmed(piece):
    """Return the piece without the parts of moves that are of no use."""
    check_piece(piece, "piece")
    check_few_hands(piece)
    return trimmed_at(piece)[0]


def scaled_place(place, number):
    """Return a place with all tables times a number."""
    if place.KIND == "end":
        return End([[multiplied(number, pay) for pay in row] for row in place.table])
    return place.with_parts([scaled_place(part, number) for part in place.parts])


def scaled(piece, number):
    """Return the piece with all tables times a number from 0 on."""
    check_piece(piece, "piece")
    if not is_weight(number):
        raise BadNumber("number")
    return scaled_place(piece, number)


def joined(one, other):
    """Return the piece in which the rival is paid by both pieces."""
    check_piece(one, "one")
    check_piece(other, "other")
    if (one.keeper_hands, one.rival_hands) != (other.keeper_hands, other.rival_hands):
        raise Misfit("other")
    return Draw((1, 1), (one, other))
