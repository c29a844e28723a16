"""Places for tests: one of each kind, and trees of several kinds, always the same ones."""

import random

from planless.pieces import (
    Draw, End, Hole, KeeperHides, KeeperMove, KeeperSees, KeeperShows, RivalHides, RivalMove, RivalSees, RivalShows)

GUESS = RivalMove([End([[1], [-1]]), End([[-1], [1]])])
HIDE = KeeperHides([2], GUESS)
# One place of each kind, with the text that the document tells for it.
KINDS = [
    (End([[1, (1, 2)], [-3, 0]]), "end 2 2 1 1/2 -3 0"),
    (Hole(8, 1), "hole 8 1"),
    (KeeperMove([End([[1]]), Hole(1, 1)]), "keeper-move 2 end 1 1 1 hole 1 1"),
    (RivalMove([End([[1]])]), "rival-move 1 end 1 1 1"),
    (Draw([0, (2, 3), 5], [Hole(2, 3)] * 3), "draw 3 0 2/3 5 hole 2 3 hole 2 3 hole 2 3"),
    (KeeperHides([2, 1], Hole(3, 4)), "keeper-hides 2 2 1 hole 3 4"),
    (RivalHides([1, 4], Hole(3, 5)), "rival-hides 2 1 4 hole 3 5"),
    (KeeperSees([[1], [0, (1, 2)]], Hole(3, 1)), "keeper-sees 2 1 1 2 0 1/2 hole 3 1"),
    (RivalSees([[(1, 2), (1, 2)], [1]], Hole(1, 3)), "rival-sees 2 2 1/2 1/2 1 1 hole 1 3"),
    (KeeperShows([[0, 2], [1]], [End([[1], [2]]), End([[5]])]), "keeper-shows 3 0 1 0 end 2 1 1 2 end 1 1 5"),
    (RivalShows([[0], [1, 2]], [Hole(2, 1), Hole(2, 2)]), "rival-shows 3 0 1 1 hole 2 1 hole 2 2"),
]


def chain(part, many):
    """Return the place beneath so many moves of one part."""
    for at in range(many):
        part = RivalMove([part]) if at % 2 else KeeperMove([part])
    return part


def wide(many, leaf=None):
    """Return a place with so many places in it, at most 120, leaves of one kind at most four levels down."""
    leaf = leaf or End([[0]])

    def made(left):
        if left == 1:
            return leaf
        parts = min(6, left - 1)
        shares = [(left - 1) // parts + (at < (left - 1) % parts) for at in range(parts)]
        return KeeperMove([made(share) for share in shares])

    return made(many)


def any_numbers(draw, many, least=-9):
    """Return some numbers."""
    return [draw.choice((draw.randint(least, 9), (draw.choice((1, 3, 5)), draw.choice((2, 4))))) for _ in range(many)]


def any_lots(draw, many):
    """Return lots of so many hands."""
    lots = [[] for _ in range(draw.randint(1, min(many, 3)))]
    for hand in range(many):
        lots[draw.randrange(len(lots))].append(hand)
    return sorted(lot for lot in lots if lot)


def any_place(draw, keeper, rival, levels, holes=()):
    """Return any place with so many hands and at most so many levels; an end may be a hole of these sizes."""
    kind = draw.randrange(11) if levels > 1 else 0
    mine, theirs = (keeper, rival) if kind % 2 else (rival, keeper)

    def part(own, other):
        sides = (own, other) if kind % 2 else (other, own)
        return any_place(draw, *sides, levels - 1, holes)

    def parts(many):
        return [part(mine, theirs) for _ in range(many)]

    if kind == 0:
        if (keeper, rival) in holes and draw.random() < .5:
            return Hole(keeper, rival)
        return End([any_numbers(draw, rival) for _ in range(keeper)])
    if kind in (1, 2):
        return (KeeperMove if kind == 1 else RivalMove)(parts(draw.randint(1, 2)))
    if kind in (3, 4):
        many = draw.randint(1, 2)
        return Draw(any_numbers(draw, many, 0), parts(many))
    if kind in (5, 6):
        lots = any_lots(draw, mine)
        return (KeeperShows if kind == 5 else RivalShows)(lots, [part(len(lot), theirs) for lot in lots])
    counts = [1] * mine
    if mine < 5:
        counts[draw.randrange(mine)] += draw.randint(0, 2)
    below = part(sum(counts), theirs)
    if kind in (7, 8):
        return (KeeperHides if kind == 7 else RivalHides)(counts, below)
    return (KeeperSees if kind == 9 else RivalSees)([any_numbers(draw, count, 0) for count in counts], below)


def some_places(many, holes=(), seed=1):
    """Return that many places of several kinds."""
    draw = random.Random(seed)
    found = []
    while len(found) < many:
        try:
            place = any_place(draw, draw.randint(1, 3), draw.randint(1, 3), draw.randint(1, 5), holes)
        except ValueError:
            continue
        found.append(place)
    return found
