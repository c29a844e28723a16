import unittest

from examples import check_raises
from fractions_of import fractions, listed
from reckoning import earned
from test_players import some_stands
from trees import BLUFF, DEEP, NO_PIECES, great_places, places_of_all_kinds

from planless.books import Book
from planless.cones import holds
from planless.errors import BadNumber, BadPiece, Impossible
from planless.mirrors import mirrored
from planless.numbers import minus
from planless.pieces import End, choosing_ways
from planless.players import Player, played_book
from planless.worths import worth


class PlayedBooksTest(unittest.TestCase):
    def test_no_hand_earns_more(self):
        for piece, reach, limits in some_stands(131, 9)[1]:
            book = played_book(piece, reach, limits)
            self.assertIs(book.__class__, Book)
            self.assertEqual((book.piece, book.side), (piece, "keeper"))
            for number, limit in zip(earned(book, reach), fractions(limits), strict=True):
                self.assertLessEqual(number, limit)
            self.assertEqual(played_book(piece, tuple(listed(reach)), listed(limits)), book)

    def test_it_is_what_the_player_plays(self):
        for piece, reach, limits in some_stands(132)[1]:
            book = played_book(piece, reach, limits)
            for way, rows in zip(choosing_ways(piece, "keeper"), book.chances, strict=True):
                player = Player(piece, reach, limits)
                for at in way:
                    player.goes(at)
                self.assertEqual(repr(player.chances()), repr(rows))

    def test_games(self):
        # With reach (1,) and the worth as its limit a player is sure of what no keeper can better.
        games = [piece for piece in places_of_all_kinds(20, 133) + great_places(15, 133)
                 if (piece.keeper_hands, piece.rival_hands) == (1, 1)]
        self.assertGreater(len(games), 9)
        for game in (BLUFF, mirrored(BLUFF), *games):
            number = worth(game, [1], [1]).number
            self.assertEqual(earned(played_book(game, [1], [number]), [1]), fractions([number]))
            self.assertRaises(Impossible, played_book, game, [1], [minus(number, (1, 10 ** 40))])

    def test_where_nobody_chooses(self):
        self.assertEqual(played_book(End([[2]]), [1], [2]), Book(End([[2]]), "keeper", ()))

    def test_wrong_values(self):
        for value in NO_PIECES:
            check_raises(self, BadPiece("piece"), played_book, value, None, None)
        for value in (None, [], [1], [1, -1], [1, True], [1, 1, 1], "11", [1, (2, 2)]):
            check_raises(self, BadNumber("reach"), played_book, DEEP, value, None)
        for value in (None, 1, [], [1, 1], [True], "1", [(2, 4)], [-99, -99]):
            check_raises(self, BadNumber("limits"), played_book, DEEP, [1, 1], value)
        with self.assertRaises(Impossible) as caught:
            played_book(limits=[0], reach=[1, 1], piece=DEEP)
        self.assertEqual(caught.exception.paper, holds(DEEP, [1, 1], [0]))

    def test_what_is_passed_stays(self):
        reach, limits = [[1, 2]], [[-1, 6]]
        told = played_book(BLUFF, reach, limits)
        self.assertEqual((reach, limits), ([[1, 2]], [[-1, 6]]))
        kept = repr(told.chances)
        reach[0][0] = 3
        self.assertEqual(repr(told.chances), kept)


if __name__ == "__main__":
    unittest.main()
