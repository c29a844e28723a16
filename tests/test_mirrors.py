import random
import unittest

from examples import check_raises
from fractions_of import fraction, fractions, listed
from trees import BLUFF, KINDS, NO_PIECES, any_book, any_reach, great_places, places_of_all_kinds

from planless.answers import best_answer, best_limits, floor_answer, floors, pay
from planless.books import Book, even_book
from planless.errors import BadBook, BadPiece
from planless.mirrors import mirrored, mirrored_book
from planless.pieces import (
    Draw, End, KeeperHides, KeeperMove, KeeperSees, KeeperShows, RivalHides, RivalMove, RivalSees, RivalShows, ways)
from planless.worths import worth

ONE, TWO = End([[1, (1, 2)]]), End([[-1], [(-1, 2)]])


class MirrorsTest(unittest.TestCase):
    def test_each_kind(self):
        for piece, other in (
            (End([[1, 2, 3], [4, (-5, 2), 0]]), End([[-1, -4], [-2, (5, 2)], [-3, 0]])),
            (KeeperMove([ONE, ONE]), RivalMove([TWO, TWO])),
            (RivalMove([ONE, ONE, ONE]), KeeperMove([TWO, TWO, TWO])),
            (Draw([0, (2, 3)], [ONE, KeeperMove([ONE])]), Draw([0, (2, 3)], [TWO, RivalMove([TWO])])),
            (KeeperHides([1], ONE), RivalHides([1], TWO)),
            (RivalHides([2], ONE), KeeperHides([2], TWO)),
            (KeeperSees([[(1, 3)]], ONE), RivalSees([[(1, 3)]], TWO)),
            (RivalSees([[0], [5]], ONE), KeeperSees([[0], [5]], TWO)),
            (KeeperShows([[0], [1]], [ONE, ONE]), RivalShows([[0], [1]], [TWO, TWO])),
            (RivalShows([[0, 1]], [ONE]), KeeperShows([[0, 1]], [TWO])),
        ):
            self.assertEqual(mirrored(piece), other)
            self.assertEqual(str(mirrored(piece)), str(other))
            self.assertEqual(mirrored(piece=other), piece)

    def test_all_kinds(self):
        for piece in places_of_all_kinds(9, 41):
            other = mirrored(piece)
            self.assertEqual((other.keeper_hands, other.rival_hands, other.many, other.levels),
                             (piece.rival_hands, piece.keeper_hands, piece.many, piece.levels))
            self.assertEqual(ways(other), ways(piece))
            self.assertEqual(mirrored(other), piece)

    def test_books(self):
        draw = random.Random(42)
        for piece in places_of_all_kinds(9, 42) + great_places(5, 42):
            other = mirrored(piece)
            mine, theirs = any_book(draw, piece, "keeper"), any_book(draw, piece, "rival")
            reach, rival_reach = any_reach(draw, piece.keeper_hands), any_reach(draw, piece.rival_hands)
            for book, side in ((mine, "rival"), (theirs, "keeper")):
                told = mirrored_book(book=book)
                self.assertEqual(told, Book(other, side, book.chances))
                self.assertEqual(mirrored_book(told), book)
            # Limits and floors, and what is paid, are the same with the other sign.
            self.assertEqual([-value for value in fractions(floors(piece, theirs, rival_reach))],
                             fractions(best_limits(other, mirrored_book(theirs), rival_reach)))
            self.assertEqual([-value for value in fractions(best_limits(piece, mine, reach))],
                             fractions(floors(other, mirrored_book(mine), reach)))
            self.assertEqual(mirrored_book(best_answer(piece, mine, reach)),
                             floor_answer(other, mirrored_book(mine), reach))
            self.assertEqual(-fraction(pay(piece, mine, theirs, reach, rival_reach)),
                             fraction(pay(other, mirrored_book(theirs), mirrored_book(mine), rival_reach, reach)))
            self.assertEqual(-fraction(worth(piece, reach, rival_reach).number),
                             fraction(worth(other, rival_reach, reach).number))

    def test_wrong_values(self):
        for value in (*NO_PIECES, *[place for place, _ in KINDS if place.hole_sizes]):
            check_raises(self, BadPiece("piece"), mirrored, value)
        for value in (None, 1, BLUFF, "keeper", ((((1, 0),),),), Book, even_book(BLUFF, "keeper").chances):
            check_raises(self, BadBook("book"), mirrored_book, value)

    def test_what_is_passed_stays(self):
        book = even_book(BLUFF, "keeper")
        before = str(BLUFF), repr(book.chances)
        told = mirrored(BLUFF), mirrored_book(book)
        self.assertEqual((str(BLUFF), repr(book.chances)), before)
        self.assertEqual(listed(told[1].chances), listed(book.chances))


if __name__ == "__main__":
    unittest.main()
