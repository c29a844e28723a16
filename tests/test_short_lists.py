import random
import time
import unittest

from cones_of import are_at_least_0, great_listed_pieces, has_few_hands
from fractions_of import fractions, number
from fractions import Fraction
from trees import any_reach

from planless.best_books import best_books
from planless.answers import best_limits
from planless.check_compared import shows_compared, shows_never_worse
from planless.compared import compared, never_worse
from planless.facets import least_of, walls_of
from planless.lists import rays_for, walls_for
from planless.pieces import (
    Draw, End, KeeperHides, KeeperMove, KeeperSees, KeeperShows, RivalHides, RivalMove, RivalSees, RivalShows)
from planless.turnings import trimmed

SHORT = 5


def long_pay(draw, least=-999999):
    """Return any number with at most six digits above the line and two below."""
    return number(Fraction(draw.randint(least, 999999), draw.randint(1, 99)))


def any_end(draw, mine, theirs):
    """Return an end with such numbers."""
    return End([[long_pay(draw) for _ in range(theirs)] for _ in range(mine)])


def moves(draw, mine, theirs, many, kinds):
    """Return a tree of places of these kinds, all with so many hands, so many places in all."""
    if many < 3:
        return any_end(draw, mine, theirs) if many == 1 else KeeperMove([any_end(draw, mine, theirs)])
    kind = draw.choice(kinds)
    parts = draw.choice([2, 2, 2, min(many - 1, 6)])
    shares = [1 + (many - 1 - parts) * (at == 0) for at in range(parts)]
    if draw.random() < .5:
        left = many - 1 - parts
        shares = [1 + left // parts + (at < left % parts) for at in range(parts)]
    found = [moves(draw, mine, theirs, share, kinds) for share in shares]
    return Draw([long_pay(draw, 1) for _ in found], found) if kind is Draw else kind(found)


def beneath_others(draw, mine, theirs, part):
    """Return places that hide, see and show, with such a part of two hands on both sides beneath, or the like."""
    hidden = KeeperHides([mine], RivalHides([theirs], part))
    seen = KeeperSees([[long_pay(draw, 1) for _ in range(mine)]],
                      RivalSees([[long_pay(draw, 1) for _ in range(theirs)]], part))
    return [hidden, seen, RivalHides([theirs], KeeperSees([[long_pay(draw, 1) for _ in range(mine)]], part))]


def promised_pieces(draw):
    """Return pieces as great as a short time is promised for."""
    found = []
    kinds = ([KeeperMove, RivalMove], [KeeperMove, RivalMove, Draw], [Draw, KeeperMove], [Draw, RivalMove])
    for hands, many in (((2, 2), 16), ((1, 3), 16), ((3, 1), 16), ((3, 3), 7), ((4, 2), 7), ((2, 4), 7)):
        found.extend([moves(draw, *hands, many, kinds[at % 4]) for at in range(24)])
    for hands, many in (((2, 2), 14), ((3, 1), 14), ((1, 3), 14), ((3, 3), 5), ((2, 4), 5), ((4, 2), 5)):
        for at in range(4):
            found.extend(beneath_others(draw, *hands, moves(draw, *hands, many, kinds[at])))
    for at in range(8):
        parts = [moves(draw, 1, 3, 3, kinds[at % 4]), moves(draw, 2, 3, 3, kinds[at % 4])]
        found.append(KeeperShows([[0, 2], [1]], parts[::-1]))
        parts = [moves(draw, 3, 2, 3, kinds[at % 4]), moves(draw, 3, 1, 3, kinds[at % 4])]
        found.append(RivalShows([[0, 1], [2]], parts))
    return found


class ShortListsTest(unittest.TestCase):
    def in_short(self, function, *values):
        """Return what the function returns, which must come in a short time."""
        start = time.monotonic()
        told = function(*values)
        self.assertLess(time.monotonic() - start, SHORT, function)
        return told

    def test_facets(self):
        draw = random.Random(251)
        for wide, many in ((4, 24), (3, 24), (6, 14), (5, 14), (8, 10), (7, 10), (8, 40)):
            bent = [[at ** power for power in range(wide)] for at in range(1, many + 1)]
            drawn = [[*[draw.randint(-10 ** 20, 10 ** 20) for _ in range(wide - 1)], 10 ** 21] for _ in range(many)]
            flat = [[*[draw.randint(0, 1) for _ in range(wide - 1)], 1] for _ in range(many)]
            for vectors in (bent, drawn, [*flat[:many - wide], *[[int(at == index) + (at == wide - 1)
                                                                 for at in range(wide)] for index in range(wide)]]):
                walls, rays = self.in_short(walls_of, vectors), self.in_short(least_of, vectors)
                for row in rays:
                    self.assertTrue(are_at_least_0(row, walls))
            self.assertEqual(self.in_short(least_of, bent), tuple(sorted(map(tuple, bent))))

    def test_lists(self):
        draw = random.Random(252)
        for piece in promised_pieces(draw) + great_listed_pieces(20, 252):
            self.assertTrue(has_few_hands(piece))
            rays, walls = self.in_short(rays_for, piece), self.in_short(walls_for, piece)
            # The worth for any reaches is told by the walls alone: no stand of it is beyond one, and with less it is.
            reach, theirs = any_reach(draw, piece.keeper_hands), any_reach(draw, piece.rival_hands)
            book = best_books(piece, reach, theirs)[1]
            stand = [*fractions(reach), *fractions(best_limits(piece, book, reach))]
            self.assertTrue(are_at_least_0(stand, walls))
            if all(theirs):
                stand[-1] -= Fraction(1, 10 ** 12)
                self.assertFalse(are_at_least_0(stand, walls))
            self.assertTrue(are_at_least_0(draw.choice(rays), walls))

    def test_compared(self):
        draw = random.Random(253)
        pieces = promised_pieces(draw)[::4]
        for piece in pieces:
            for other in (piece, draw.choice([other for other in pieces if (other.keeper_hands, other.rival_hands) ==
                                              (piece.keeper_hands, piece.rival_hands)])):
                told = self.in_short(compared, piece, other)
                self.assertIs(self.in_short(shows_compared, piece, other, told), True)
                told = self.in_short(never_worse, piece, other)
                self.assertIs(self.in_short(shows_never_worse, piece, other, told), True)
            self.assertEqual(rays_for(self.in_short(trimmed, piece)), rays_for(piece))


if __name__ == "__main__":
    unittest.main()
