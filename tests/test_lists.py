import random
import unittest
from fractions import Fraction

from cones_of import are_at_least_0, cone_rows, great_listed_pieces, listed_pieces, seen_draw
from determinants import lowest, product, rank, rays_by_determinants, walls_by_determinants
from examples import check_raises
from fractions_of import fraction, fractions, number
from reckoning import earned
from trees import NO_PIECES, any_book, any_numbers, any_reach

from planless.best_books import best_books
from planless.cones import holds
from planless.errors import BadPiece, TooMany
from planless.lists import rays_for, walls_for
from planless.mirrors import mirrored
from planless.pieces import (
    Draw, End, KeeperHides, KeeperMove, KeeperSees, KeeperShows, RivalHides, RivalMove, RivalSees, RivalShows)
from planless.worths import worth

TWO = End([[2]])


def parted(piece, row):
    """Return what a row has for the keeper's hands, and for the rival's."""
    return row[:piece.keeper_hands], row[piece.keeper_hands:]


class ListsTest(unittest.TestCase):
    def check_forms(self, piece, rays, walls):
        """Check all that the lists have in common: their forms, and that each is that of the other."""
        wide = piece.keeper_hands + piece.rival_hands
        for rows in (rays, walls):
            self.assertIsInstance(rows, tuple)
            self.assertEqual(list(rows), sorted(set(rows)))
            for row in rows:
                self.assertEqual((row.__class__, len(row), row), (tuple, wide, lowest(row)))
        for rows, others in ((rays, walls), (walls, rays)):
            for row in rows:
                self.assertTrue(are_at_least_0(row, others))
                self.assertEqual(rank([other for other in others if product(row, other) == 0]), wide - 1)
        for ray in rays:
            reach, limits = parted(piece, ray)
            self.assertGreaterEqual(min(reach), 0)
            if not any(reach):
                self.assertEqual(sorted(limits), [0] * (len(limits) - 1) + [1])
        for wall in walls:
            reach, limits = parted(piece, wall)
            self.assertGreaterEqual(min(limits), 0)
            if not any(limits):
                self.assertEqual(sorted(reach), [0] * (len(reach) - 1) + [1])

    def test_against_lists_of_parts(self):
        told = []
        for piece in listed_pieces(12, 211):
            rays, walls = rays_for(piece), walls_for(piece)
            self.check_forms(piece, rays, walls)
            found = cone_rows(piece)
            told.append(found is not None)
            if found is not None:
                self.assertEqual((rays, walls), found)
        self.assertGreater(told.count(True), 320)

    def test_against_determinants(self):
        draw = random.Random(212)
        for piece in listed_pieces(5, 212, (2, 3)):
            rays, walls = rays_for(piece), walls_for(piece)
            if len(rays) <= 10:
                self.assertEqual(walls_by_determinants(rays), walls)
                self.assertEqual(rays_by_determinants(draw.sample(rays, len(rays))), rays)

    def test_rays_are_held(self):
        for piece in listed_pieces(4, 213) + great_listed_pieces(5, 213):
            for ray in rays_for(piece):
                reach, limits = parted(piece, ray)
                self.assertTrue(holds(piece, reach, limits))
                for hand in range(len(limits)):
                    if any(reach):
                        less = [*limits[:hand], number(limits[hand] - Fraction(1, 10 ** 20)), *limits[hand + 1:]]
                        self.assertFalse(holds(piece, reach, less))

    def test_walls_are_floors(self):
        # By the wall (-c, y) the worth for each reach and y is at least the sum of c times the reach, and once just this.
        draw = random.Random(214)
        for piece in listed_pieces(4, 214) + great_listed_pieces(5, 214):
            rays = rays_for(piece)
            for wall in walls_for(piece):
                costs, theirs = parted(piece, wall)
                reach = any_reach(draw, piece.keeper_hands)
                value = fraction(worth(piece, reach, theirs).number)
                self.assertGreaterEqual(value, -product(fractions(reach), costs))
                ray = next(ray for ray in rays if product(ray, wall) == 0 and (any(parted(piece, ray)[0]) or not any(theirs)))
                reach, _ = parted(piece, ray)
                self.assertEqual(fraction(worth(piece, reach, theirs).number), -product(reach, costs) if any(theirs) else 0)

    def test_books_and_walls(self):
        draw = random.Random(215)
        for piece in listed_pieces(6, 215) + great_listed_pieces(6, 215):
            walls = walls_for(piece)
            for _ in range(3):
                reach = any_reach(draw, piece.keeper_hands)
                limits = earned(any_book(draw, piece, "keeper"), reach)
                self.assertTrue(are_at_least_0([*fractions(reach), *limits], walls))

    def test_stands_and_walls(self):
        draw = random.Random(216)
        found = []
        for piece in listed_pieces(6, 216) + great_listed_pieces(4, 216):
            walls = walls_for(piece)
            reach, theirs = any_reach(draw, piece.keeper_hands), any_reach(draw, piece.rival_hands)
            book = best_books(piece, reach, theirs)[1]
            for limits in (any_numbers(draw, piece.rival_hands),
                           [number(limit + draw.choice((0, Fraction(1, 10 ** 9), Fraction(-1, 10 ** 9))))
                            for limit in earned(book, reach)]):
                is_inside = are_at_least_0([*fractions(reach), *fractions(limits)], walls)
                self.assertIs(bool(holds(piece, reach, limits)), is_inside)
                found.append(is_inside)
        self.assertGreater(min(found.count(True), found.count(False)), 20)

    def test_mirrored(self):
        for piece in listed_pieces(8, 217) + great_listed_pieces(5, 217):
            turned = mirrored(piece)
            theirs = piece.rival_hands
            self.assertEqual(tuple(sorted((*ray[theirs:], *ray[:theirs]) for ray in rays_for(turned))), walls_for(piece))
            self.assertEqual(tuple(sorted((*row[theirs:], *row[:theirs]) for row in walls_for(turned))), rays_for(piece))

    def test_each_kind(self):
        flat, steep = End([[1], [1]]), End([[0], [3]])
        for piece, rays, walls in (
            (End([[(1, 2), (-1, 3)]]), ((0, 0, 1), (0, 1, 0), (6, 3, -2)), ((-1, 2, 0), (1, 0, 0), (1, 0, 3))),
            (KeeperMove([flat, steep]), ((0, 0, 1), (0, 1, 1), (1, 0, 0)), ((0, -1, 1), (0, 1, 0), (1, 0, 0))),
            (RivalMove([flat, steep]), None, ((-1, -1, 1), (0, -3, 1), (0, 1, 0), (1, 0, 0))),
            (KeeperHides([2], steep), ((0, 1), (1, 0)), ((0, 1), (1, 0))),
            (RivalHides([2], End([[0, 3]])), ((0, 1), (1, 3)), ((-3, 1), (1, 0))),
            (KeeperSees([[(1, 2), (2, 7)]], steep), ((0, 1), (7, 6)), ((-6, 7), (1, 0))),
            (KeeperSees([[0, 0]], steep), ((0, 1), (1, 0)), ((0, 1), (1, 0))),
            (RivalSees([[(1, 2), (2, 7)]], End([[2, 7]])), ((0, 1), (1, 3)), ((-3, 1), (1, 0))),
            (RivalSees([[0, 0]], End([[2, 7]])), ((0, 1), (1, 0)), ((0, 1), (1, 0))),
            (KeeperShows([[0], [1]], [TWO, End([[5]])]), ((0, 0, 1), (0, 1, 5), (1, 0, 2)), None),
            (RivalShows([[0], [1]], [TWO, End([[5]])]), ((0, 0, 1), (0, 1, 0), (1, 2, 5)),
             ((-5, 0, 1), (-2, 1, 0), (1, 0, 0))),
            (Draw([(1, 2), (2, 7)], [TWO, End([[7]])]), ((0, 1), (1, 3)), ((-3, 1), (1, 0))),
            (Draw([0, 0], [TWO, TWO]), ((0, 1), (1, 0)), ((0, 1), (1, 0))),
            (Draw([0, (1, 2)], [End([[9]]), TWO]), ((0, 1), (1, 1)), ((-1, 1), (1, 0))),
        ):
            with self.subTest(str(piece)):
                told = rays_for(piece), walls_for(piece)
                self.check_forms(piece, *told)
                self.assertEqual(told, (rays or told[0], walls or told[1]))

    def test_draws(self):
        # Of two parts or three, which are sums or are not, and with weights of 0.
        draw = random.Random(218)
        parts = [piece for piece in listed_pieces(6, 218, (2, 3)) if len(piece.parts) > 1]
        told = 0
        for piece in parts:
            fitting = [other for other in parts if (other.keeper_hands, other.rival_hands) ==
                       (piece.keeper_hands, piece.rival_hands)]
            for many in (2, 3):
                place = Draw(any_numbers(draw, many, 0), draw.choices(fitting, k=many))
                found = cone_rows(place)
                if found is not None:
                    told += 1
                    self.assertEqual((rays_for(place), walls_for(place)), found)
                if many * place.rival_hands <= 6 - place.keeper_hands:
                    self.assertEqual(rays_for(seen_draw(place)), rays_for(place))
        self.assertGreater(told, 40)

    def test_parts_of_no_use(self):
        for piece in listed_pieces(2, 219, (2, 3)):
            rays = rays_for(piece)
            for twice in (KeeperMove([piece, piece]), RivalMove([piece] * 3), KeeperMove([piece]),
                          Draw([(1, 3), (2, 3)], [piece, piece])):
                self.assertEqual((rays_for(twice), walls_for(twice)), (rays, walls_for(piece)))
        mixed = KeeperMove([End([[0, 2]]), End([[2, 0]])])
        self.assertEqual(rays_for(KeeperMove([*mixed.parts, End([[1, 1]])])), rays_for(mixed))
        self.assertEqual(rays_for(KeeperMove([*mixed.parts, End([[(3, 2), (3, 2)]])])), rays_for(mixed))
        self.assertNotEqual(rays_for(KeeperMove([*mixed.parts, End([[1, (9, 10)]])])), rays_for(mixed))

    def test_hands(self):
        for mine, theirs in ((1, 5), (5, 1), (3, 3), (4, 2), (2, 4)):
            end = End([[at + hand for hand in range(theirs)] for at in range(mine)])
            self.assertEqual(len(rays_for(end)), 6)
            self.assertEqual(len(walls_for(KeeperMove([end]))), 6)
        for mine, theirs in ((1, 6), (6, 1), (3, 4), (4, 3), (8, 8), (5, 2)):
            end = End([[0] * theirs] * mine)
            for piece in (end, KeeperMove([end]), KeeperSees([[1] * mine], RivalSees([[1] * theirs], end)),
                          RivalMove([End([[0]]), KeeperSees([[0] * mine], RivalSees([[0] * theirs], end))])):
                check_raises(self, TooMany("hands", 6), rays_for, piece)
                check_raises(self, TooMany("hands", 6), walls_for, piece)
        # Seven beneath alone, six at the root.
        below = KeeperHides([2, 1, 1], End([[0, 0, 0]] * 4))
        self.assertEqual((below.keeper_hands, below.rival_hands), (3, 3))
        check_raises(self, TooMany("hands", 6), rays_for, below)
        self.assertEqual(len(rays_for(KeeperHides([2, 1], End([[0, 0, 0]] * 3)))), 5)

    def test_wrong_values(self):
        for value in NO_PIECES:
            check_raises(self, BadPiece("piece"), rays_for, value)
            check_raises(self, BadPiece("piece"), walls_for, value)
        self.assertEqual(rays_for(piece=TWO), ((0, 1), (1, 2)))
        self.assertEqual(walls_for(piece=TWO), ((-2, 1), (1, 0)))

    def test_what_is_passed_stays(self):
        table = [[1, [1, 2]], [3, 0]]
        piece = KeeperMove([End(table), End([[0, 0], [1, 1]])])
        before = str(piece)
        told = rays_for(piece), walls_for(piece)
        self.assertEqual(str(piece), before)
        table[0][0] = 7
        self.assertEqual((rays_for(piece), walls_for(piece)), told)


if __name__ == "__main__":
    unittest.main()
