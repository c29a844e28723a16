"""Rays and walls of the cones of pieces."""

from planless.cone_rows import RAYS, WALLS, cone_at
from planless.errors import TooMany
from planless.pieces import check_piece, place_at, ways

MOST_LISTED_HANDS = 6


def check_few_hands(piece):
    """Raise the error of a piece with too many hands of both sides at a place."""
    places = [place_at(piece, way) for way in ways(piece)]
    if max([place.keeper_hands + place.rival_hands for place in places]) > MOST_LISTED_HANDS:
        raise TooMany("hands", MOST_LISTED_HANDS)


def listed_cone(piece):
    """Return the rays and the walls of a piece."""
    check_piece(piece, "piece")
    check_few_hands(piece)
    return cone_at(piece)


def rays_for(piece):
    """Return the rays of a piece."""
    return listed_cone(piece)[RAYS]


def walls_for(piece):
    """Return the walls of a piece."""
    return listed_cone(piece)[WALLS]
