"""Frames that make games, drawn, and pairs of pieces to put into them."""

from cones_of import great_listed_pieces, listed_pieces
from fractions_of import fraction, number
from trees import any_number, any_numbers, any_place

from planless.errors import TooMany
from planless.frames import filled
from planless.lists import rays_for
from planless.pieces import (
    Draw, End, Hole, KeeperHides, KeeperMove, KeeperSees, KeeperShows, RivalHides, RivalMove, RivalSees, RivalShows,
    is_frame)


def any_frame(draw, mine, theirs, levels=4):
    """Return any frame that makes games of pieces with so many hands."""
    while True:
        try:
            inside = any_place(draw, mine, theirs, draw.randint(1, levels - 2), [(mine, theirs)]) \
                if draw.random() < .5 else Hole(mine, theirs)
            frame = KeeperSees([any_numbers(draw, mine, 0)], RivalSees([any_numbers(draw, theirs, 0)], inside))
            if draw.random() < .3:
                frame = any_place(draw, 1, 1, levels, [(mine, theirs)])
            elif draw.random() < .3:
                frame = Draw([1, (2, 3)], [frame, KeeperMove([End([[1]]), frame])])
        except ValueError:
            continue
        if is_frame(frame) and frame.hole_sizes == ((mine, theirs),):
            return frame


def games_of(frame, *pieces):
    """Return the games that a frame makes of pieces, or None if one is too great."""
    try:
        return [filled(frame, piece) for piece in pieces]
    except TooMany:
        return None


def turned_alike(draw, piece):
    """Return pieces that are alike with one by their make."""
    mine, theirs = piece.keeper_hands, piece.rival_hands
    worse = KeeperMove([piece, raised(piece, 1)])
    return [
        KeeperMove([piece]), RivalMove([piece, piece]), Draw([(1, 3), (2, 3)], [piece, piece]), Draw([1, 0], [piece, piece]),
        KeeperHides([1] * mine, piece), RivalHides([1] * theirs, piece), KeeperSees([[1]] * mine, piece),
        RivalSees([[1]] * theirs, piece), KeeperShows([range_of(mine)], [piece]), RivalShows([range_of(theirs)], [piece]),
        worse, RivalMove([piece, raised(piece, draw.choice((-1, (-1, 3))))]),
    ]


def range_of(many):
    """Return the lot of so many hands."""
    return list(range(many))


def raised(piece, by):
    """Return the piece with a number added to all that a hand is paid at ends, draws and what is seen aside."""
    flat = End([[by] * piece.rival_hands] * piece.keeper_hands)
    return Draw([1, 1], [piece, flat])


def changed_end(draw, place):
    """Return the place with one pay of one end changed a little."""
    if isinstance(place, End):
        table = [list(row) for row in place.table]
        row = draw.choice(table)
        at = draw.randrange(len(row))
        row[at] = number(fraction(row[at]) + draw.choice((1, -1)) * fraction(draw.choice((1, (1, 9), (1, 10 ** 9)))))
        return End(table)
    parts = list(place.parts)
    at = draw.randrange(len(parts))
    parts[at] = changed_end(draw, parts[at])
    return place.with_parts(parts)


def compared_pairs(draw, many, seed, great=4):
    """Return pairs of pieces with as many hands: alike, nearly so, better or worse, or any."""
    found = []
    pieces = listed_pieces(many, seed, (2, 3)) + great_listed_pieces(great, seed)
    for piece in pieces:
        other = draw.choice([other for other in pieces if (other.keeper_hands, other.rival_hands) ==
                             (piece.keeper_hands, piece.rival_hands)])
        found.append((piece, other))
        found.append((piece, draw.choice(turned_alike(draw, piece))))
        found.append((piece, changed_end(draw, piece)))
        found.append((KeeperMove([piece, other]), piece))
        found.append((piece, RivalMove([other, piece])))
    return [pair[::draw.choice((1, -1))] for pair in found if max(piece.levels for piece in pair) <= 8]


def are_cones_same(one, other):
    """Tell whether two pieces have one cone."""
    return rays_for(one) == rays_for(other)


def any_table(draw, mine, theirs):
    """Return an end with great numbers."""
    return End([[any_number(draw) for _ in range(theirs)] for _ in range(mine)])
