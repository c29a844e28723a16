"""Whether pieces are worth the same in every frame, or one is never worth more."""

from planless.best_books import best_books
from planless.cone_rows import RAYS, WALLS, cone_at
from planless.errors import Misfit, TooMany
from planless.hulls import product_of
from planless.lists import check_few_hands
from planless.papers import Denial, Paper
from planless.pieces import Hole, KeeperSees, RivalSees, check_piece

# A frame that shows what is unlike has two places ahead of its hole.
MOST_FRAMED_LEVELS = 8
MOST_FRAMED_PLACES = 118


class Alike(Paper):
    """Both pieces are worth the same in every frame."""

    def __init__(self):
        Paper.__init__(self, "alike")


class NeverWorse(Paper):
    """In every frame the one piece is worth at most what the other one is."""

    def __init__(self):
        Paper.__init__(self, "neverworse")


class Unlike(Denial):
    """In this frame the one piece and the other one have these worths, which are unlike."""

    def __init__(self, frame, worth, other_worth):
        Denial.__init__(self, "unlike", frame, worth, other_worth)
        self.frame, self.worth, self.other_worth = self.parts


class Worse(Denial):
    """In this frame the one piece and the other one have these worths, the first above the second."""

    def __init__(self, frame, worth, other_worth):
        Denial.__init__(self, "worse", frame, worth, other_worth)
        self.frame, self.worth, self.other_worth = self.parts


def check_comparable(one, other):
    """Raise the error of what are no two pieces that can be compared."""
    check_piece(one, "one")
    check_piece(other, "other")
    if (one.keeper_hands, one.rival_hands) != (other.keeper_hands, other.rival_hands):
        raise Misfit("other")
    for piece in (one, other):
        if piece.levels > MOST_FRAMED_LEVELS:
            raise TooMany("levels", MOST_FRAMED_LEVELS)
        if piece.many > MOST_FRAMED_PLACES:
            raise TooMany("places", MOST_FRAMED_PLACES)
    check_few_hands(one)
    check_few_hands(other)


def ray_outside(cone, other):
    """Return a ray of a cone that is not in another one, with a wall of this one that bars it; or None."""
    for ray in cone[RAYS]:
        for wall in other[WALLS]:
            if product_of(ray, wall) < 0:
                return ray, wall
    return None


def shown_in_frame(one, other, found):
    """Return a frame and the worths of both pieces in it, for a ray and a wall that bars it."""
    mine = one.keeper_hands
    reach, rival_reach = found[0][:mine], found[1][mine:]
    frame = KeeperSees((reach,), RivalSees((rival_reach,), Hole(mine, one.rival_hands)))
    return frame, best_books(one, reach, rival_reach)[0], best_books(other, reach, rival_reach)[0]


def compared(one, other):
    """Return what shows that two pieces are alike, or a frame in which they are not."""
    check_comparable(one, other)
    cone, other_cone = cone_at(one), cone_at(other)
    found = ray_outside(cone, other_cone)
    if found is None:
        found = ray_outside(other_cone, cone)
    if found is None:
        return Alike()
    frame, number, other_number = shown_in_frame(one, other, found)
    return Unlike(frame, number, other_number)


def never_worse(one, other):
    """Return what shows that one piece is never worth more than another one, or a frame in which it is."""
    check_comparable(one, other)
    found = ray_outside(cone_at(other), cone_at(one))
    if found is None:
        return NeverWorse()
    frame, number, other_number = shown_in_frame(one, other, found)
    return Worse(frame, number, other_number)
