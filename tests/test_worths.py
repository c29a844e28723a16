import random
import unittest

from examples import check_raises
from fractions_of import fraction, fractions, listed, number, product
from reckoning import hands_of, paid, pure_many, pure_rows, rows_of, unit
from shown import check_worth
from trees import BLUFF, DEEP, NO_PIECES, any_book, any_reach, great_places, places_of_all_kinds, with_long_numbers

from planless.answers import best_limits
from planless.cones import holds
from planless.errors import BadNumber, BadPiece
from planless.papers import Denial, Paper
from planless.pieces import Draw, End, KeeperHides, KeeperMove, RivalHides, RivalMove
from planless.worths import Worth, worth


def hidden(table):
    """Return the game in which both sides choose hidden from the other one."""
    return KeeperHides([len(table)], RivalHides([len(table[0])], End(table)))


class WorthsTest(unittest.TestCase):
    def number_of(self, piece, reach, rival_reach):
        """Check the answer, and that it comes again; return its number."""
        told = worth(piece, reach, rival_reach)
        again = worth(piece, tuple(listed(reach)), tuple(listed(rival_reach)))
        self.assertEqual(told, again)
        self.assertEqual(repr(told.number), repr(again.number))
        return check_worth(self, piece, reach, rival_reach, told)

    def test_paper(self):
        self.assertTrue(issubclass(Worth, Paper) and not issubclass(Worth, Denial))
        told = Worth([1, 2], [3], rival_book=None)
        self.assertEqual((told.word, told.parts, told.number, told.book, told.rival_book, bool(told)),
                         ("worth", ((1, 2), (3,), None), (1, 2), (3,), None, True))
        self.assertEqual(Worth(rival_book=3, book=2, number=1), Worth(1, 2, 3))
        self.assertNotEqual(Worth(1, 2, 3), Paper("worth", 1, 2, 3))

    def test_known_games(self):
        for piece, value in (
            (End([[(7, 3)]]), (7, 3)),
            (hidden([[0, 1, -1], [-1, 0, 1], [1, -1, 0]]), 0),
            (hidden([[1, -1], [-1, 1]]), 0),
            (hidden([[3, -1], [-2, 4]]), 1),
            (hidden([[2, 1], [1, 3]]), (5, 3)),
            (hidden([[0, 2, 2], [2, 0, 2], [2, 2, 0]]), (4, 3)),
            (hidden([[5, 6], [7, 8]]), 6),
            (KeeperMove([End([[4]]), End([[3]]), RivalMove([End([[2]]), End([[5]])])]), 3),
            (RivalMove([End([[4]]), KeeperMove([End([[6]]), End([[5]])])]), 5),
            (Draw([(1, 3), (2, 3)], [End([[3]]), End([[-6]])]), -3),
            (Draw([0, 0], [End([[3]]), End([[-6]])]), 0),
        ):
            told = worth(piece, [1], [1])
            self.assertEqual(told.number, value)
            self.assertEqual(self.number_of(piece, [1], [1]), fraction(value))

    def test_all_kinds(self):
        draw = random.Random(61)
        for piece in places_of_all_kinds(12, 61):
            reach, rival_reach = any_reach(draw, piece.keeper_hands), any_reach(draw, piece.rival_hands)
            value = self.number_of(piece, reach, rival_reach)
            # A reach times a, and a rival reach times b, make it a b times as great.
            self.assertEqual(self.number_of(piece, [number(2 * at) for at in fractions(reach)],
                                            [number(at / 3) for at in fractions(rival_reach)]), value * 2 / 3)
            # No book has less, and no stand of the cone has.
            book = any_book(draw, piece, "keeper")
            limits = best_limits(piece, book, reach)
            self.assertLessEqual(value, product(fractions(limits), fractions(rival_reach)))
            self.assertTrue(holds(piece, reach, limits))

    def test_against_all_books(self):
        for piece in places_of_all_kinds(6, 62):
            if pure_many(piece, "rival") * pure_many(piece, "keeper") > 60:
                continue
            told = worth(piece, [1] * piece.keeper_hands, [1] * piece.rival_hands)
            mine, theirs = [1] * piece.keeper_hands, [1] * piece.rival_hands
            most = max(paid(piece, rows_of(told.book), rows, mine, theirs) for rows in pure_rows(piece, "rival"))
            fewest = min(paid(piece, rows, rows_of(told.rival_book), mine, theirs)
                         for rows in pure_rows(piece, "keeper"))
            self.assertEqual((most, fewest), (fraction(told.number), fraction(told.number)))

    def test_great_pieces(self):
        draw = random.Random(63)
        for piece in great_places(15, 63):
            for _ in range(2):
                self.number_of(piece, any_reach(draw, piece.keeper_hands), any_reach(draw, piece.rival_hands))

    def test_long_numbers(self):
        draw = random.Random(64)
        for piece in places_of_all_kinds(3, 64):
            long = with_long_numbers(draw, piece)
            self.number_of(long, [(10 ** 39 + 1, 3 * 10 ** 38)] * piece.keeper_hands, [1] * piece.rival_hands)

    def test_nobody_and_one_hand(self):
        for piece in places_of_all_kinds(3, 65):
            nought, none = [0] * piece.keeper_hands, [0] * piece.rival_hands
            ones, all_of_them = [1] * piece.keeper_hands, [1] * piece.rival_hands
            self.assertEqual(self.number_of(piece, nought, all_of_them), 0)
            self.assertEqual(self.number_of(piece, ones, none), 0)
            self.assertEqual(self.number_of(piece, nought, none), 0)
            for hand in range(hands_of(piece, "keeper")):
                self.number_of(piece, [int(at) for at in unit(piece.keeper_hands, hand)], all_of_them)
            for hand in range(hands_of(piece, "rival")):
                self.number_of(piece, ones, [int(at) for at in unit(piece.rival_hands, hand)])

    def test_many_ties(self):
        # Nearly all swaps win nothing here.
        draw = random.Random(66)
        for values in ((0,), (0, 1), (1, -1), (0, 0, 0, 1)):
            for _ in range(4):
                def end():
                    return End([[draw.choice(values) for _ in range(3)] for _ in range(3)])
                moves = KeeperMove([RivalMove([end(), KeeperMove([end(), end()])]), end()])
                self.number_of(KeeperHides([3], RivalHides([3], RivalMove([moves, end()]))), [1], [1])

    def test_wrong_values(self):
        for value in NO_PIECES:
            check_raises(self, BadPiece("piece"), worth, value, None, None)
        for value in (None, 1, "0", [], [1], [1, 1, 1], [1, -1], [1, (-1, 2)], [1, True], [1, (2, 4)], [1, 0.5], {}):
            check_raises(self, BadNumber("reach"), worth, DEEP, value, None)
        for value in (None, 1, "0", [], [1, 1], [-1], [(-1, 3)], [True], [(2, 4)], [0.5], {0: 1}, (1, 2)):
            check_raises(self, BadNumber("rival_reach"), worth, DEEP, [1, 1], value)
        self.assertEqual(worth(rival_reach=[0], reach=[1, 1], piece=DEEP).number, 0)

    def test_what_is_passed_stays(self):
        reach, rival_reach = [[1, 2]], [[3, 2]]
        told = worth(BLUFF, reach, rival_reach)
        self.assertEqual((reach, rival_reach, told.number), ([[1, 2]], [[3, 2]], (-1, 4)))
        reach[0][0] = 9
        self.assertEqual(told, worth(BLUFF, [(1, 2)], [(3, 2)]))


if __name__ == "__main__":
    unittest.main()
