"""Places for tests: one of each kind, and trees of several kinds, always the same ones."""

import random
from fractions import Fraction

from fractions_of import number

from planless.books import Book, first_book
from planless.pieces import (
    Draw, End, Hole, KeeperHides, KeeperMove, KeeperSees, KeeperShows, RivalHides, RivalMove, RivalSees, RivalShows)

GUESS = RivalMove([End([[1], [-1]]), End([[-1], [1]])])
HIDE = KeeperHides([2], GUESS)
BLUFF = KeeperSees([[(1, 2), (1, 2)]], KeeperMove([
    End([[-1], [1]]), RivalMove([End([[-1], [-1]]), End([[-2], [2]])])]))
# Two places of the keeper, of two hands with one choice and three, and of four hands with two; one of the rival.
DEEP = KeeperHides([1, 3], KeeperMove([End([[1]] * 4), RivalMove([End([[2]] * 4)])]))
NO_PIECES = (None, 1, "end 1 1 0", Hole(1, 1), KeeperMove([Hole(1, 1)]), End, [End([[1]])])
# One place of each kind, with the text that the document tells for it.
KINDS = [
    (End([[1, (1, 2)], [-3, 0]]), "end 2 2 1 1/2 -3 0"),
    (Hole(8, 1), "hole 8 1"),
    (KeeperMove([End([[1]]), Hole(1, 1)]), "keeper-move 2 end 1 1 1 hole 1 1"),
    (RivalMove([End([[1]])]), "rival-move 1 end 1 1 1"),
    (Draw([0, (2, 3), 5], [Hole(2, 3)] * 3), "draw 3 0 2/3 5 hole 2 3 hole 2 3 hole 2 3"),
    (KeeperHides([2, 1], Hole(3, 4)), "keeper-hides 2 2 1 hole 3 4"),
    (RivalHides([1, 4], Hole(3, 5)), "rival-hides 2 1 4 hole 3 5"),
    (KeeperSees([[1], [0, (1, 2)]], Hole(3, 1)), "keeper-sees 2 1 1 2 0 1/2 hole 3 1"),
    (RivalSees([[(1, 2), (1, 2)], [1]], Hole(1, 3)), "rival-sees 2 2 1/2 1/2 1 1 hole 1 3"),
    (KeeperShows([[0, 2], [1]], [End([[1], [2]]), End([[5]])]), "keeper-shows 3 0 1 0 end 2 1 1 2 end 1 1 5"),
    (RivalShows([[0], [1, 2]], [Hole(2, 1), Hole(2, 2)]), "rival-shows 3 0 1 1 hole 2 1 hole 2 2"),
]


def chain(part, many):
    """Return the place beneath so many moves of one part."""
    for at in range(many):
        part = RivalMove([part]) if at % 2 else KeeperMove([part])
    return part


def wide(many, leaf=None):
    """Return a place with so many places in it, at most 120, leaves of one kind at most four levels down."""
    leaf = leaf or End([[0]])

    def made(left):
        if left == 1:
            return leaf
        parts = min(6, left - 1)
        shares = [(left - 1) // parts + (at < (left - 1) % parts) for at in range(parts)]
        return KeeperMove([made(share) for share in shares])

    return made(many)


def any_numbers(draw, many, least=-9):
    """Return some numbers."""
    return [draw.choice((draw.randint(least, 9), (draw.choice((1, 3, 5)), draw.choice((2, 4))))) for _ in range(many)]


def any_lots(draw, many):
    """Return lots of so many hands."""
    lots = [[] for _ in range(draw.randint(1, min(many, 3)))]
    for hand in range(many):
        lots[draw.randrange(len(lots))].append(hand)
    return sorted(lot for lot in lots if lot)


def any_place(draw, keeper, rival, levels, holes=(), kind=None):
    """Return any place with so many hands and at most so many levels; an end may be a hole of these sizes."""
    if kind is None:
        kind = draw.randrange(11) if levels > 1 else 0
    mine, theirs = (keeper, rival) if kind % 2 else (rival, keeper)

    def part(own, other):
        sides = (own, other) if kind % 2 else (other, own)
        return any_place(draw, *sides, levels - 1, holes)

    def parts(many):
        return [part(mine, theirs) for _ in range(many)]

    if kind == 0:
        if (keeper, rival) in holes and draw.random() < .5:
            return Hole(keeper, rival)
        return End([any_numbers(draw, rival) for _ in range(keeper)])
    if kind in (1, 2):
        return (KeeperMove if kind == 1 else RivalMove)(parts(draw.randint(1, 2)))
    if kind in (3, 4):
        many = draw.randint(1, 2)
        return Draw(any_numbers(draw, many, 0), parts(many))
    if kind in (5, 6):
        lots = any_lots(draw, mine)
        return (KeeperShows if kind == 5 else RivalShows)(lots, [part(len(lot), theirs) for lot in lots])
    counts = [1] * mine
    if mine < 5:
        counts[draw.randrange(mine)] += draw.randint(0, 2)
    below = part(sum(counts), theirs)
    if kind in (7, 8):
        return (KeeperHides if kind == 7 else RivalHides)(counts, below)
    return (KeeperSees if kind == 9 else RivalSees)([any_numbers(draw, count, 0) for count in counts], below)


def some_places(many, holes=(), seed=1):
    """Return that many places of several kinds."""
    draw = random.Random(seed)
    found = []
    while len(found) < many:
        try:
            place = any_place(draw, draw.randint(1, 3), draw.randint(1, 3), draw.randint(1, 5), holes)
        except ValueError:
            continue
        found.append(place)
    return found


def places_of_all_kinds(many, seed=1):
    """Return so many places of each kind, those with parts with one to three levels beneath, and one to three hands."""
    draw = random.Random(seed)
    found = []
    for kind in (0, 1, 2, 3, 5, 6, 7, 8, 9, 10):
        for at in range(many):
            place, levels = None, 2 + at % 3 if kind else 1
            while place is None or place.levels != levels:
                try:
                    place = any_place(draw, draw.randint(1, 3), draw.randint(1, 3), levels, kind=kind)
                except ValueError:
                    continue
            found.append(place)
    return found


class OverBudget(Exception):
    """More places or hands than were to be."""


def any_number(draw, least=-9999):
    """Return any number with at most four digits above the line and two below."""
    return number(Fraction(draw.randint(least, 9999), draw.randint(1, 99)))


def great_place(draw, left, keeper, rival, levels):
    """Return a place with great numbers, and mostly choices in it; left is what places and hands are left."""
    left[0], left[1] = left[0] - 1, left[1] - keeper - rival
    if min(left) < 0:
        raise OverBudget
    if levels == 1 or draw.random() < .2:
        return End([[any_number(draw) for _ in range(rival)] for _ in range(keeper)])

    def part(mine, others, by_keeper):
        sides = (mine, others) if by_keeper else (others, mine)
        return great_place(draw, left, *sides, levels - 1)

    by_keeper = draw.random() < .5
    mine, others = (keeper, rival) if by_keeper else (rival, keeper)
    kind = draw.choice(("move", "move", "hides", "hides", "sees", "shows", "draw"))
    if kind == "move" or mine == 3 and kind in ("hides", "sees"):
        parts = [part(mine, others, by_keeper) for _ in range(draw.randint(2, 4))]
        return (KeeperMove if by_keeper else RivalMove)(parts)
    if kind == "draw":
        many = draw.randint(2, 3)
        return Draw([any_number(draw, 0) for _ in range(many)], [part(mine, others, by_keeper) for _ in range(many)])
    if kind == "shows":
        lots = any_lots(draw, mine)
        return (KeeperShows if by_keeper else RivalShows)(lots, [part(len(lot), others, by_keeper) for lot in lots])
    counts = [1] * mine
    while sum(counts) < 3:
        counts[draw.randrange(mine)] += 1
    if kind == "hides":
        return (KeeperHides if by_keeper else RivalHides)(counts, part(3, others, by_keeper))
    weights = [[any_number(draw, 0) for _ in range(count)] for count in counts]
    return (KeeperSees if by_keeper else RivalSees)(weights, part(3, others, by_keeper))


def great_places(many, seed=1):
    """Return pieces with nearly as many places and hands as a short time is promised for."""
    draw = random.Random(seed)
    found = []
    while len(found) < many:
        left = [24, 60]
        try:
            place = great_place(draw, left, draw.randint(1, 3), draw.randint(1, 3), draw.randint(4, 9))
        except OverBudget:
            continue
        if left[0] < 2 or left[1] < 6:
            found.append(place)
    return found


def any_row(draw, choices):
    """Return any row of chances of so many choices."""
    shares = [draw.choice((0, 0, 1, draw.randint(1, 9))) for _ in range(choices)]
    if not any(shares):
        shares[draw.randrange(choices)] = 1
    return [number(Fraction(share, sum(shares))) for share in shares]


def any_book(draw, piece, side):
    """Return any book of a side."""
    return Book(piece, side, [[any_row(draw, len(row)) for row in rows] for rows in first_book(piece, side).chances])


def any_reach(draw, hands):
    """Return any list of so many weights: all 0, of one hand, or any."""
    if draw.random() < .1:
        return [0] * hands
    if draw.random() < .2:
        at = draw.randrange(hands)
        return [int(hand == at) for hand in range(hands)]
    return any_numbers(draw, hands, 0)


def long_number(draw, least=-1):
    """Return any number with twenty to forty digits above the line and below it."""
    return number(Fraction(draw.choice((least, 1)) * draw.randint(10 ** 20, 10 ** 40), draw.randint(10 ** 20, 10 ** 40)))


def with_long_numbers(draw, place):
    """Return the place with long numbers in the place of all pays and weights but 0."""
    if not place.parts:
        return End([[long_number(draw) if pay else 0 for pay in row] for row in place.table])
    parts = [with_long_numbers(draw, part) for part in place.parts]
    if isinstance(place, Draw):
        return Draw([long_number(draw, 1) if weight else 0 for weight in place.weights], parts)
    if isinstance(place, (KeeperSees, RivalSees)):
        weights = [[long_number(draw, 1) if weight else 0 for weight in row] for row in place.weights]
        return (KeeperSees if isinstance(place, KeeperSees) else RivalSees)(weights, parts[0])
    return place.with_parts(parts)
