import random
import unittest

from fractions_of import fraction
from shown import check_worth
from trees import any_reach, great_places, places_of_all_kinds

from planless.books import Book, book_read
from planless.cones import holds
from planless.frames import cut, exchanged, filled
from planless.mirrors import mirrored
from planless.piece_texts import read
from planless.pieces import KeeperSees, RivalSees, ways
from planless.worths import worth


class TextsToWorthsTest(unittest.TestCase):
    def test_the_whole_way(self):
        draw = random.Random(81)
        for piece in places_of_all_kinds(6, 81) + great_places(5, 81):
            reach, rival_reach = any_reach(draw, piece.keeper_hands), any_reach(draw, piece.rival_hands)
            game = read(str(KeeperSees([reach], RivalSees([rival_reach], piece))))
            told = worth(game, [1], [1])
            value = check_worth(self, game, [1], [1], told)
            # What is dealt by weights is what is entered with reaches.
            self.assertEqual(value, check_worth(self, piece, reach, rival_reach, worth(piece, reach, rival_reach)))
            turned = read(str(mirrored(game)))
            self.assertEqual(fraction(worth(turned, [1], [1]).number), -value)
            self.assertEqual(worth(mirrored(turned), [1], [1]), told)
            for way in ways(game):
                frame, part = cut(game, way)
                again = filled(read(str(frame)), read(str(part)))
                self.assertEqual(worth(again, [1], [1]), told)
                self.assertEqual(exchanged(turned, way, mirrored(part)), turned)
            self.assertTrue(holds(game, [1], [told.number]))
            self.assertFalse(holds(game, [1], [told.number - 1 if isinstance(told.number, int) else
                                               (told.number[0] - told.number[1], told.number[1])]))
            if len(str(told.book)) < 60:
                self.assertEqual(book_read(game, str(told.book)), told.book)
            self.assertEqual(Book(read(str(game)), "keeper", told.book.chances), told.book)


if __name__ == "__main__":
    unittest.main()
