import random
import unittest

from examples import check_raises
from fractions_of import fraction, fractions, listed, number, product
from reckoning import all_earned, choosing, earned, earned_by_all_books, hands_of, paid, pure_many, rows_of, unit
from trees import (
    BLUFF, DEEP, NO_PIECES, any_book, any_reach, great_places, places_of_all_kinds, some_places, with_long_numbers)

from planless.answers import best_answer, best_limits, floor_answer, floors, pay
from planless.books import Book, even_book, first_book
from planless.errors import BadBook, BadNumber, BadPiece
from planless.pieces import (
    Draw, End, KeeperHides, KeeperMove, KeeperSees, KeeperShows, RivalHides, RivalMove, RivalSees, RivalShows, place_at)

# Two hands on either side; each number of its table is told by the digits of its hands.
HERE = End([[11, 12], [21, 22]])
THERE = End([[100, 200], [300, 400]])
EVEN = (1, 2)


class AnswersTest(unittest.TestCase):
    def check_pay(self, piece, draw):
        """Check what two books pay, and what the hands of either side can earn against them."""
        mine, theirs = any_book(draw, piece, "keeper"), any_book(draw, piece, "rival")
        reach, rival_reach = any_reach(draw, piece.keeper_hands), any_reach(draw, piece.rival_hands)
        told = pay(piece, mine, theirs, reach, rival_reach)
        self.assertEqual(fraction(told), paid(piece, rows_of(mine), rows_of(theirs), fractions(reach),
                                              fractions(rival_reach)))
        limits, fewest = best_limits(piece, mine, reach), floors(piece, theirs, rival_reach)
        self.assertIsInstance(limits, tuple)
        self.assertIsInstance(fewest, tuple)
        self.assertEqual(fractions(limits), earned(mine, reach))
        self.assertEqual(fractions(fewest), earned(theirs, rival_reach))
        for book, answer, own, most in ((mine, best_answer(piece, mine, reach), reach, limits),
                                        (theirs, floor_answer(piece, theirs, rival_reach), rival_reach, fewest)):
            self.check_answer(piece, book, answer, fractions(own), most)
        # What is paid stands between both sums, and the answers reach them.
        self.assertLessEqual(told_sum(fewest, reach), fraction(told))
        self.assertGreaterEqual(told_sum(limits, rival_reach), fraction(told))
        self.assertEqual(fraction(pay(piece, mine, best_answer(piece, mine, reach), reach, rival_reach)),
                         told_sum(limits, rival_reach))
        self.assertEqual(fraction(pay(piece, floor_answer(piece, theirs, rival_reach), theirs, reach, rival_reach)),
                         told_sum(fewest, reach))

    def check_answer(self, piece, book, answer, reach, told):
        """Check that an answer takes everywhere the least number of those choices that are best."""
        side = "rival" if book.side == "keeper" else "keeper"
        best = max if side == "rival" else min
        self.assertEqual((answer.piece, answer.side), (piece, side))
        found = all_earned(book, reach)
        self.assertEqual(fractions(told), found[()])
        for way, counts in choosing(piece, side):
            place = place_at(piece, way)
            for hand, many in enumerate(counts):
                if isinstance(place, (KeeperMove, RivalMove)):
                    values = [found[(*way, at)][hand] for at in range(many)]
                else:
                    values = [found[(*way, 0)][sum(counts[:hand]) + at] for at in range(many)]
                at = values.index(best(values))
                self.assertEqual(answer.row(way, hand), tuple([int(choice == at) for choice in range(many)]))

    def test_all_kinds(self):
        draw = random.Random(31)
        for piece in places_of_all_kinds(12, 31) + some_places(60, seed=32):
            self.check_pay(piece, draw)

    def test_against_all_books(self):
        draw = random.Random(33)
        for piece in places_of_all_kinds(9, 33):
            for side, many in (("keeper", pure_many(piece, "rival")), ("rival", pure_many(piece, "keeper"))):
                if many <= 60:
                    book = any_book(draw, piece, side)
                    reach = any_reach(draw, hands_of(piece, side))
                    told = best_limits(piece, book, reach) if side == "keeper" else floors(piece, book, reach)
                    self.assertEqual(fractions(told), earned_by_all_books(piece, book, fractions(reach)))

    def test_great_pieces(self):
        draw = random.Random(34)
        for piece in great_places(12, 34):
            self.check_pay(piece, draw)

    def test_long_numbers(self):
        draw = random.Random(35)
        for piece in places_of_all_kinds(3, 35):
            self.check_pay(with_long_numbers(draw, piece), draw)

    def test_reaches_of_nought_and_of_one_hand(self):
        draw = random.Random(36)
        for piece in places_of_all_kinds(3, 36):
            mine, theirs = any_book(draw, piece, "keeper"), any_book(draw, piece, "rival")
            nought, none = [0] * piece.keeper_hands, [0] * piece.rival_hands
            self.assertEqual(best_limits(piece, mine, nought), (0,) * piece.rival_hands)
            self.assertEqual(floors(piece, theirs, none), (0,) * piece.keeper_hands)
            self.assertEqual(pay(piece, mine, theirs, nought, [1] * piece.rival_hands), 0)
            self.assertEqual(pay(piece, mine, theirs, [1] * piece.keeper_hands, none), 0)
            # What all hands pay is what each one pays alone, taken together.
            alone = [pay(piece, mine, theirs, [int(at) for at in unit(piece.keeper_hands, hand)], [1] * piece.rival_hands)
                     for hand in range(piece.keeper_hands)]
            self.assertEqual(fraction(pay(piece, mine, theirs, [1] * piece.keeper_hands, [1] * piece.rival_hands)),
                             sum(fractions(alone)))
            # For twice the reach limits are twice as great.
            reach = any_reach(draw, piece.keeper_hands)
            twice = [number(2 * value) for value in fractions(reach)]
            self.assertEqual([2 * value for value in fractions(best_limits(piece, mine, reach))],
                             fractions(best_limits(piece, mine, twice)))

    def test_end(self):
        mine, theirs = Book(HERE, "keeper", ()), Book(HERE, "rival", ())
        self.assertEqual(pay(HERE, mine, theirs, [1, 0], [0, 1]), 12)
        self.assertEqual(pay(HERE, mine, theirs, [(1, 2), 1], [1, (1, 3)]), (215, 6))
        self.assertEqual(best_limits(HERE, mine, [1, (1, 2)]), ((43, 2), 23))
        self.assertEqual(floors(HERE, theirs, [1, (1, 2)]), (17, 32))

    def test_draws(self):
        piece = Draw([(1, 2), 0, 3], [HERE, End([[5, 5], [5, 5]]), THERE])
        mine, theirs = Book(piece, "keeper", ()), Book(piece, "rival", ())
        self.assertEqual(best_limits(piece, mine, [1, 0]), ((611, 2), 606))
        # The weights stand before the floors of the parts; the reach is the same there.
        self.assertEqual(floors(piece, theirs, [1, 0]), ((611, 2), (1821, 2)))
        self.assertEqual(pay(piece, mine, theirs, [1, 0], [1, 0]), (611, 2))

    def test_seeing(self):
        piece = KeeperSees([[2], [0, (1, 2)]], RivalSees([[1, 3], [0]], End([[1, 2, 3], [4, 5, 6], [7, 8, 9]])))
        mine, theirs = Book(piece, "keeper", ()), Book(piece, "rival", ())
        self.assertEqual(best_limits(piece, mine, [1, 1]), ((59, 2), 0))
        self.assertEqual(floors(piece, theirs, [1, 1]), (14, (31, 2)))
        self.assertEqual(pay(piece, mine, theirs, [1, 0], [0, 1]), 0)
        self.assertEqual(pay(piece, mine, theirs, [0, 1], [1, 1]), (31, 2))

    def test_showing(self):
        piece = KeeperShows([[0, 2], [1]], [HERE, RivalShows([[0], [1]], [End([[5]]), End([[7]])])])
        mine, theirs = Book(piece, "keeper", ()), Book(piece, "rival", ())
        self.assertEqual(best_limits(piece, mine, [1, 1, 2]), (11 + 42 + 5, 12 + 44 + 7))
        self.assertEqual(floors(piece, theirs, [1, 10]), (11 + 120, 5 + 70, 21 + 220))

    def test_moves_and_hiding(self):
        piece = RivalMove([HERE, KeeperMove([THERE, HERE])])
        mine = Book(piece, "keeper", [[[0, 1], [(1, 2), (1, 2)]]])
        self.assertEqual(best_limits(piece, mine, [1, 0]), (11, 12))
        self.assertEqual(best_answer(piece, mine, [1, 0]).chances, (((1, 0), (1, 0)),))
        self.assertEqual(best_limits(piece, mine, [1, 1]), ((343, 2), 223))
        self.assertEqual(best_answer(piece, mine, [1, 1]).chances, (((0, 1), (0, 1)),))
        theirs = Book(piece, "rival", [[[0, 1], [1, 0]]])
        self.assertEqual(floors(piece, theirs, [1, 1]), (12 + 11, 22 + 21))
        self.assertEqual(floor_answer(piece, theirs, [1, 1]).chances, (((0, 1), (0, 1)),))
        # Nothing comes there of the rival's hand 0; so its choices are all alike, and the first is taken.
        self.assertEqual(floor_answer(piece, theirs, [0, 1]).chances, (((1, 0), (1, 0)),))
        hidden = KeeperHides([1, 2], RivalHides([2, 1], End([[1, 2, 3], [4, 5, 6], [7, 8, 9]])))
        mine = Book(hidden, "keeper", [[[1], [(1, 3), (2, 3)]]])
        self.assertEqual(best_limits(hidden, mine, [1, 3]), (2 + 5 + 16, 3 + 6 + 18))
        self.assertEqual(best_answer(hidden, mine, [1, 3]).chances, (((0, 1), (1,)),))
        theirs = Book(hidden, "rival", [[[(1, 4), (3, 4)], [1]]])
        self.assertEqual(floors(hidden, theirs, [4, 1]), (1 + 6 + 3, 4 + 15 + 6))

    def test_by_names(self):
        mine, theirs = even_book(BLUFF, "keeper"), even_book(BLUFF, "rival")
        self.assertEqual(pay(rival_reach=[1], reach=[1], rival_book=theirs, keeper_book=mine, piece=BLUFF),
                         pay(BLUFF, mine, theirs, (1,), (1,)))
        self.assertEqual(best_limits(reach=[1], book=mine, piece=BLUFF), (0,))
        self.assertEqual(best_answer(reach=[1], book=mine, piece=BLUFF), best_answer(BLUFF, mine, [1]))
        self.assertEqual(floors(rival_reach=[1], book=theirs, piece=BLUFF), floors(BLUFF, theirs, [1]))
        self.assertEqual(floor_answer(rival_reach=[1], book=theirs, piece=BLUFF), floor_answer(BLUFF, theirs, [1]))

    def test_wrong_values(self):
        mine, theirs = even_book(DEEP, "keeper"), even_book(DEEP, "rival")
        books = (None, 1, str(mine), mine.chances, DEEP, even_book(BLUFF, "keeper"), even_book(BLUFF, "rival"))
        reaches = (None, 1, [1], [1, 1, 1], [-1, 1], [True, 1], [1, (2, 4)], [1, 1.0], "11", [1, None], [[1, 1], 1], {})
        for value in NO_PIECES:
            check_raises(self, BadPiece("piece"), pay, value, None, None, None, None)
            for function in (best_limits, best_answer, floors, floor_answer):
                check_raises(self, BadPiece("piece"), function, value, None, None)
        for value in (*books, theirs):
            check_raises(self, BadBook("keeper_book"), pay, DEEP, value, None, None, None)
            for function in (best_limits, best_answer):
                check_raises(self, BadBook("book"), function, DEEP, value, None)
        for value in (*books, mine):
            check_raises(self, BadBook("rival_book"), pay, DEEP, mine, value, None, None)
            for function in (floors, floor_answer):
                check_raises(self, BadBook("book"), function, DEEP, value, None)
        for value in reaches:
            check_raises(self, BadNumber("reach"), pay, DEEP, mine, theirs, value, None)
            for function in (best_limits, best_answer):
                check_raises(self, BadNumber("reach"), function, DEEP, mine, value)
        for value in (None, 1, [], [1, 1], [-1], [(-1, 2)], [True], [(2, 4)], "1", {0: 1}):
            check_raises(self, BadNumber("rival_reach"), pay, DEEP, mine, theirs, [1, 1], value)
            for function in (floors, floor_answer):
                check_raises(self, BadNumber("rival_reach"), function, DEEP, theirs, value)

    def test_books_of_other_pieces(self):
        # A book of a piece that has the same places of its side is none of this piece.
        one, other = RivalMove([End([[1]]), End([[2]])]), RivalMove([End([[1]]), End([[3]])])
        check_raises(self, BadBook("book"), floors, one, first_book(other, "rival"), [1])
        check_raises(self, BadBook("book"), best_limits, one, first_book(other, "keeper"), [1])
        same = RivalMove((End(((1,),)), End([[2]])))
        self.assertEqual(floors(one, first_book(same, "rival"), [1]), (1,))

    def test_what_is_passed_stays(self):
        mine, theirs = even_book(DEEP, "keeper"), even_book(DEEP, "rival")
        reach, rival_reach = [[1, 2], 1], [[1, 3]]
        before = repr((reach, rival_reach, mine.chances, theirs.chances, str(DEEP)))
        told = [pay(DEEP, mine, theirs, reach, rival_reach), best_limits(DEEP, mine, reach),
                best_answer(DEEP, mine, reach).chances, floors(DEEP, theirs, rival_reach),
                floor_answer(DEEP, theirs, rival_reach).chances]
        self.assertEqual(repr((reach, rival_reach, mine.chances, theirs.chances, str(DEEP))), before)
        self.assertNotIn("[", repr(told)[1:])
        kept = repr(told)
        reach[0][0] = 5
        self.assertEqual(repr(told), kept)
        self.assertEqual(listed(best_limits(DEEP, mine, [[1, 2], 1])), listed(told[1]))


def told_sum(numbers, weights):
    """Return the sum of numbers, each times its weight."""
    return product(fractions(numbers), fractions(weights))


if __name__ == "__main__":
    unittest.main()
