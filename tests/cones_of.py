"""Rays and walls of pieces, made of those of their parts as the document tells, and pieces for tests of them."""

import random

from determinants import lowest, product
from fractions_of import fraction, fractions
from reckoning import groups
from trees import any_place, great_places

from planless.facets import least_of, walls_of
from planless.pieces import (
    Draw, End, KeeperHides, KeeperMove, KeeperSees, KeeperShows, RivalHides, RivalMove, RivalSees, RivalShows, place_at,
    ways)

MOST_VECTORS = 40


def integers(row):
    """Return fractions times what makes integers of them that none above 1 divides."""
    row = fractions(row) if any(isinstance(number, tuple) for number in row) else row
    line = 1
    for number in row:
        line *= number.denominator
    return lowest([int(number * line) for number in row])


def unit(many, at):
    """Return the row with 1 at an index."""
    return [int(hand == at) for hand in range(many)]


def end_rays(piece):
    """Return the rays of an end, as point [11] tells them."""
    mine, theirs = piece.keeper_hands, piece.rival_hands
    rays = [[0] * mine + unit(theirs, hand) for hand in range(theirs)]
    rays += [integers([*unit(mine, hand), *row]) for hand, row in enumerate(piece.table)]
    return [tuple(row) for row in rays]


def spread(lot, many, numbers):
    """Return the row in which the hands of a lot have these numbers."""
    found = [0] * many
    for hand, value in zip(lot, numbers, strict=True):
        found[hand] = value
    return found


def gathered(place, numbers):
    """Return for each hand of the side that hides or sees the sum of what its hands in the part have, weighted."""
    if isinstance(place, (KeeperHides, RivalHides)):
        return [sum(numbers[at] for at in group) for group in groups(place.counts)]
    return [sum(fraction(weight) * numbers[at] for weight, at in zip(row, group))
            for row, group in zip(place.weights, groups([len(row) for row in place.weights]))]


def made_rows(piece, rays, walls):
    """Return the rays, or the walls, and more, that point [11] tells for a place, and whether they are rays.

    rays and walls have those of each part. A Draw is no such place.
    """
    mine, theirs = piece.keeper_hands, piece.rival_hands
    if isinstance(piece, End):
        return end_rays(piece), True
    if isinstance(piece, KeeperMove):
        return [row for rows in rays for row in rows], True
    if isinstance(piece, RivalMove):
        return [row for rows in walls for row in rows], False
    if isinstance(piece, KeeperShows):
        return [(*spread(lot, mine, row[:len(lot)]), *row[len(lot):])
                for lot, rows in zip(piece.lots, rays) for row in rows], True
    if isinstance(piece, RivalShows):
        return [(*row[:mine], *spread(lot, theirs, row[mine:]))
                for lot, rows in zip(piece.lots, walls) for row in rows], False
    inside = piece.parts[0].keeper_hands
    if isinstance(piece, KeeperHides):
        return [(*gathered(piece, row[:inside]), *row[inside:]) for row in rays[0]], True
    if isinstance(piece, RivalHides):
        return [(*row[:inside], *gathered(piece, row[inside:])) for row in walls[0]], False
    if isinstance(piece, KeeperSees):
        found = [(*gathered(piece, row[:inside]), *row[inside:]) for row in walls[0]]
        return [*found, *[(*unit(mine, hand), *[0] * theirs) for hand in range(mine)]], False
    found = [(*row[:inside], *gathered(piece, row[inside:])) for row in rays[0]]
    return [*found, *[(*[0] * mine, *unit(theirs, hand)) for hand in range(theirs)]], True


def seen_draw(piece):
    """Return what a Draw is told as: the rival sees the number of the part, and shows it."""
    many, theirs = len(piece.parts), piece.rival_hands
    lots = [[hand * many + at for hand in range(theirs)] for at in range(many)]
    return RivalSees([piece.weights] * theirs, RivalShows(lots, piece.parts))


def cone_rows(piece):
    """Return the rays and the walls of a piece by those of its parts; None if there are too many vectors for it."""
    if isinstance(piece, Draw):
        if len(piece.parts) * piece.rival_hands + piece.keeper_hands > 8:
            return None
        piece = seen_draw(piece)
    below = [cone_rows(part) for part in piece.parts]
    if None in below:
        return None
    rows, are_rays = made_rows(piece, [rays for rays, _ in below], [walls for _, walls in below])
    rows = sorted({integers(row) for row in rows if any(row)})
    if len(rows) > MOST_VECTORS:
        return None
    least, around = least_of(rows), walls_of(rows)
    return (least, around) if are_rays else (around, least)


def has_few_hands(piece, most=6):
    """Tell whether no place has more hands of both sides than so many."""
    return all(place.keeper_hands + place.rival_hands <= most
               for place in (place_at(piece, way) for way in ways(piece)))


def listed_pieces(many, seed, levels=(2, 3, 4)):
    """Return so many pieces of each kind, those with parts for each of these levels, with few hands."""
    draw, found = random.Random(seed), []
    for kind in (0, 1, 2, 3, 5, 6, 7, 8, 9, 10):
        for level in levels if kind else (1,):
            left = many
            while left:
                try:
                    piece = any_place(draw, draw.randint(1, 3), draw.randint(1, 3), level, kind=kind)
                except ValueError:
                    continue
                if piece.levels == level and has_few_hands(piece):
                    found.append(piece)
                    left -= 1
    return found


def great_listed_pieces(many, seed):
    """Return so many great pieces with few hands."""
    found = []
    while len(found) < many:
        found.extend(piece for piece in great_places(8, seed) if has_few_hands(piece))
        seed += 1
    return found[:many]


def are_at_least_0(row, walls):
    """Tell whether no wall's product with a row of fractions is below 0."""
    return all(product(row, wall) >= 0 for wall in walls)
