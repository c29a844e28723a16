"""What books pay, and what hands earn, reckoned anew in fractions."""

from fractions import Fraction
from itertools import product

from fractions_of import fraction, fractions

from planless.pieces import (
    Draw, End, KeeperHides, KeeperMove, KeeperSees, KeeperShows, RivalHides, RivalMove, RivalSees, RivalShows, ways,
    place_at)

MOVES = {"keeper": KeeperMove, "rival": RivalMove}
HIDES = {"keeper": KeeperHides, "rival": RivalHides}
SEES = {"keeper": KeeperSees, "rival": RivalSees}
SHOWS = {"keeper": KeeperShows, "rival": RivalShows}
OTHER = {"keeper": "rival", "rival": "keeper"}


def hands_of(place, side):
    """Return how many hands a side has at a place."""
    return place.keeper_hands if side == "keeper" else place.rival_hands


def choices_of(place, side):
    """Return for each hand how many choices it has, or None where the side does not choose."""
    if isinstance(place, MOVES[side]):
        return [len(place.parts)] * hands_of(place, side)
    return list(place.counts) if isinstance(place, HIDES[side]) else None


def choosing(piece, side):
    """Return the ways to places where a side chooses, with the counts of choices there."""
    found = [(way, choices_of(place_at(piece, way), side)) for way in ways(piece)]
    return [(way, counts) for way, counts in found if counts is not None]


def rows_of(book):
    """Return the book's rows, in fractions, by ways."""
    return {way: [fractions(row) for row in rows]
            for (way, _), rows in zip(choosing(book.piece, book.side), book.chances, strict=True)}


def unit(many, at):
    """Return the row of a hand that is there alone."""
    return [Fraction(int(hand == at)) for hand in range(many)]


def pure_rows(piece, side):
    """Return all rows, by ways, in which each hand of a side takes one choice."""
    spots = choosing(piece, side)
    hands = [many for _, counts in spots for many in counts]
    for taken in product(*[range(many) for many in hands]):
        left = list(taken)
        yield {way: [unit(many, left.pop(0)) for many in counts] for way, counts in spots}


def pure_many(piece, side):
    """Return how many of them there are."""
    found = 1
    for _, counts in choosing(piece, side):
        for many in counts:
            found *= many
    return found


def groups(sizes):
    """Return for each hand the numbers of those that come of it."""
    starts = [sum(sizes[:at]) for at in range(len(sizes))]
    return [range(start, start + size) for start, size in zip(starts, sizes)]


def comes(place, side, reach, rows):
    """Return the reaches with which a side comes to the parts, draws aside."""
    if isinstance(place, MOVES[side]):
        return [[reach[hand] * rows[hand][at] for hand in range(len(reach))] for at in range(len(place.parts))]
    if isinstance(place, HIDES[side]):
        return [[reach[hand] * chance for hand in range(len(reach)) for chance in rows[hand]]]
    if isinstance(place, SEES[side]):
        return [[reach[hand] * fraction(weight) for hand in range(len(reach)) for weight in place.weights[hand]]]
    if isinstance(place, SHOWS[side]):
        return [[reach[hand] for hand in lot] for lot in place.lots]
    return [reach] * len(place.parts)


def paid(place, keeper_rows, rival_rows, reach, rival_reach, way=()):
    """Return what is paid at all ends together."""
    if isinstance(place, End):
        return sum(fraction(place.table[i][j]) * reach[i] * rival_reach[j]
                   for i in range(place.keeper_hands) for j in range(place.rival_hands))
    mine = comes(place, "keeper", reach, keeper_rows.get(way))
    theirs = comes(place, "rival", rival_reach, rival_rows.get(way))
    if isinstance(place, Draw):
        theirs = [[fraction(weight) * number for number in rival_reach] for weight in place.weights]
    return sum(paid(part, keeper_rows, rival_rows, mine[at], theirs[at], (*way, at))
               for at, part in enumerate(place.parts))


def earned_by_all_books(piece, book, reach):
    """Return what each hand of the other side earns by the best of all its books without chance."""
    rows, found = rows_of(book), []
    for hand in range(hands_of(piece, OTHER[book.side])):
        alone = unit(hands_of(piece, OTHER[book.side]), hand)
        if book.side == "keeper":
            found.append(max(paid(piece, rows, other, reach, alone) for other in pure_rows(piece, "rival")))
        else:
            found.append(min(paid(piece, other, rows, alone, reach) for other in pure_rows(piece, "keeper")))
    return found


def above(place, side, below):
    """Return what the other side's hands earn at a place by what they earn in the parts, as points [7] and [10] tell."""
    other = OTHER[side]
    hands = range(hands_of(place, other))
    best = max if side == "keeper" else min
    if isinstance(place, (MOVES[side], SHOWS[side])):
        return [sum(row[hand] for row in below) for hand in hands]
    if isinstance(place, (HIDES[side], SEES[side])):
        return list(below[0])
    if isinstance(place, Draw):
        return [sum(fraction(weight) * row[hand] for weight, row in zip(place.weights, below)) for hand in hands]
    if isinstance(place, MOVES[other]):
        return [best(row[hand] for row in below) for hand in hands]
    if isinstance(place, HIDES[other]):
        return [best(below[0][at] for at in group) for group in groups(place.counts)]
    if isinstance(place, SEES[other]):
        sizes = [len(row) for row in place.weights]
        return [sum(fraction(weight) * below[0][at] for weight, at in zip(row, group))
                for row, group in zip(place.weights, groups(sizes))]
    return [next(row[lot.index(hand)] for lot, row in zip(place.lots, below) if hand in lot) for hand in hands]


def at_end(place, side, reach):
    """Return what the other side's hands earn at an end."""
    if side == "keeper":
        return [sum(reach[i] * fraction(place.table[i][j]) for i in range(len(reach)))
                for j in range(place.rival_hands)]
    return [sum(reach[j] * fraction(place.table[i][j]) for j in range(len(reach))) for i in range(place.keeper_hands)]


def all_earned(book, reach, place=None, way=(), rows=None):
    """Return for each way what the other side's hands earn at best there, against the book."""
    place, rows = place or book.piece, rows or rows_of(book)
    if isinstance(place, End):
        return {way: at_end(place, book.side, reach)}
    found = {}
    for at, (part, below) in enumerate(zip(place.parts, comes(place, book.side, reach, rows.get(way)))):
        found.update(all_earned(book, below, part, (*way, at), rows))
    below = [found[(*way, at)] for at in range(len(place.parts))]
    return {way: above(place, book.side, below), **found}


def earned(book, reach):
    """Return what the other side's hands earn at best at the root, against the book."""
    return all_earned(book, fractions(reach))[()]
