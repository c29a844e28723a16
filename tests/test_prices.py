import random
import unittest
from fractions import Fraction

from examples import check_raises
from fractions_of import fraction, fractions, listed, number, product
from reckoning import all_earned, choosing, earned, groups, paid, rows_of
from trees import BLUFF, DEEP, NO_PIECES, any_book, any_reach, great_places, places_of_all_kinds, with_long_numbers

from planless.answers import best_answer, pay
from planless.books import Book, even_book, first_book
from planless.errors import BadBook, BadNumber, BadPiece
from planless.numbers import minus
from planless.pieces import (
    Draw, End, KeeperMove, RivalHides, RivalMove, RivalSees, RivalShows, choosing_ways, place_at)
from planless.prices import all_prices, lost

GOOD, BOLD = Book(BLUFF, "keeper", [[[0, 1], [(2, 3), (1, 3)]]]), Book(BLUFF, "keeper", [[[0, 1], [0, 1]]])
THIRD = Book(BLUFF, "rival", [[[(1, 3), (2, 3)]]])


def some_played(seed, many=6):
    """Return pieces with books and reaches of both sides."""
    draw = random.Random(seed)
    return [(piece, any_book(draw, piece, "keeper"), any_book(draw, piece, "rival"),
             any_reach(draw, piece.keeper_hands), any_reach(draw, piece.rival_hands))
            for piece in places_of_all_kinds(many, seed) + great_places(6, seed)]


def prices_anew(piece, book, reach):
    """Return all prices, reckoned by point [10] from the best limits of all places."""
    limits, found = all_earned(book, fractions(reach)), []
    for way, counts in choosing(piece, "rival"):
        for hand, many in enumerate(counts):
            for choice in range(many):
                if isinstance(place_at(piece, way), RivalMove):
                    value = limits[(*way, choice)][hand]
                else:
                    value = limits[(*way, 0)][groups(counts)[hand][choice]]
                found.append((way, hand, choice, number(limits[way][hand] - value)))
    return tuple(found)


def rival_reaches(place, rows, reach, way=()):
    """Return for each way the rival reach there, as point [10] tells it."""
    found = {way: reach}
    for at, part in enumerate(place.parts):
        below = reach
        if isinstance(place, RivalMove):
            below = [value * rows[way][hand][at] for hand, value in enumerate(reach)]
        elif isinstance(place, RivalHides):
            below = [value * chance for value, row in zip(reach, rows[way]) for chance in row]
        elif isinstance(place, RivalSees):
            below = [value * fraction(weight) for value, row in zip(reach, place.weights) for weight in row]
        elif isinstance(place, Draw):
            below = [value * fraction(place.weights[at]) for value in reach]
        elif isinstance(place, RivalShows):
            below = [reach[hand] for hand in place.lots[at]]
        found.update(rival_reaches(part, rows, below, (*way, at)))
    return found


def lost_anew(piece, book, rival_book, reach, rival_reach):
    """Return what is lost, summed up choice by choice."""
    rows = rows_of(rival_book)
    reaches = rival_reaches(piece, rows, fractions(rival_reach))
    return sum((reaches[way][hand] * rows[way][hand][choice] * fraction(price)
                for way, hand, choice, price in prices_anew(piece, book, reach)), Fraction(0))


class PricesTest(unittest.TestCase):
    def test_all_prices(self):
        for piece, book, _, reach, _ in some_played(231, 9):
            told = all_prices(piece, book, reach)
            self.assertEqual(repr(told), repr(prices_anew(piece, book, reach)))
            self.assertEqual(repr(all_prices(piece, book, tuple(reach))), repr(told))
            self.assertEqual(list(dict.fromkeys(way for way, _, _, _ in told)), list(choosing_ways(piece, "rival")))
            # A price is never below 0, and each hand has a choice of price 0: the best answer takes the first one.
            cheapest = {}
            for way, hand, choice, price in told:
                self.assertGreaterEqual(fraction(price), 0)
                if price == 0:
                    cheapest.setdefault((way, hand), choice)
            answer = best_answer(piece, book, reach)
            for way, counts in choosing(piece, "rival"):
                for hand in range(len(counts)):
                    self.assertEqual(answer.row(way, hand)[cheapest[(way, hand)]], 1)

    def test_lost(self):
        found = []
        for piece, book, rival_book, reach, theirs in some_played(232, 9):
            told = lost(piece, book, rival_book, reach, theirs)
            self.assertEqual(told, number(lost_anew(piece, book, rival_book, reach, theirs)))
            # What the rival is paid and what it has lost are together the sum of its reaches times the best limits.
            together = product(fractions(theirs), earned(book, reach))
            value = paid(piece, rows_of(book), rows_of(rival_book), fractions(reach), fractions(theirs))
            self.assertEqual(fraction(told) + value, together)
            self.assertEqual(minus(number(together), told), pay(piece, book, rival_book, reach, theirs))
            self.assertEqual(lost(piece, book, best_answer(piece, book, reach), reach, theirs), 0)
            self.assertEqual(lost(piece, book, rival_book, listed(reach), tuple(theirs)), told)
            found.append(told == 0)
        self.assertEqual(set(found), {True, False})

    def test_long_numbers(self):
        draw = random.Random(233)
        for piece, _, _, reach, theirs in some_played(233, 1)[:10]:
            long = with_long_numbers(draw, piece)
            book, rival_book = any_book(draw, long, "keeper"), any_book(draw, long, "rival")
            self.assertEqual(all_prices(long, book, reach), prices_anew(long, book, reach))
            self.assertEqual(lost(long, book, rival_book, reach, theirs),
                             number(lost_anew(long, book, rival_book, reach, theirs)))

    def test_reaches_of_nought(self):
        for piece, book, rival_book, reach, theirs in some_played(234, 3):
            none, nobody = [0] * piece.keeper_hands, [0] * piece.rival_hands
            self.assertEqual({price for _, _, _, price in all_prices(piece, book, none)} - {0}, set())
            self.assertEqual(lost(piece, book, rival_book, none, theirs), 0)
            self.assertEqual(lost(piece, book, rival_book, reach, nobody), 0)
        # Without rival reach prices stay.
        self.assertEqual(all_prices(BLUFF, BOLD, (1,)), (((0, 1), 0, 0, 1), ((0, 1), 0, 1, 0)))
        self.assertEqual(all_prices(BLUFF, BOLD, [(1, 2)]), (((0, 1), 0, 0, (1, 2)), ((0, 1), 0, 1, 0)))

    def test_draws_weigh(self):
        move = RivalMove([End([[0]]), End([[3]])])
        piece = Draw([(1, 2), 5], [move, KeeperMove([move])])
        book = Book(piece, "keeper", [[[1]]])
        self.assertEqual(all_prices(piece, book, [1]), (((0,), 0, 0, 3), ((0,), 0, 1, 0),
                                                        ((1, 0), 0, 0, 3), ((1, 0), 0, 1, 0)))
        for rows, told in (([[[1, 0]], [[0, 1]]], (3, 2)), ([[[0, 1]], [[1, 0]]], 15), ([[[0, 1]], [[0, 1]]], 0),
                           ([[[(1, 2), (1, 2)]], [[(1, 3), (2, 3)]]], (23, 4))):
            self.assertEqual(lost(piece, book, Book(piece, "rival", rows), [1], [1]), told)

    def test_where_nobody_chooses(self):
        end = End([[1, 2], [3, 4]])
        mine, theirs = Book(end, "keeper", ()), Book(end, "rival", ())
        self.assertEqual(all_prices(end, mine, [1, 1]), ())
        self.assertEqual(lost(end, mine, theirs, [1, 1], [1, 1]), 0)

    def test_wrong_values(self):
        for value in NO_PIECES:
            check_raises(self, BadPiece("piece"), all_prices, value, None, None)
            check_raises(self, BadPiece("piece"), lost, value, None, None, None, None)
        near = RivalMove([End([[1]])])
        for value in (None, 1, THIRD, GOOD.chances, str(GOOD), even_book(DEEP, "keeper"), first_book(near, "keeper")):
            check_raises(self, BadBook("book"), all_prices, BLUFF, value, None)
            check_raises(self, BadBook("book"), lost, BLUFF, value, None, None, None)
        for value in (None, 1, GOOD, THIRD.chances, even_book(DEEP, "rival"), first_book(near, "rival")):
            check_raises(self, BadBook("rival_book"), lost, BLUFF, GOOD, value, None, None)
        for value in (None, 1, [], [1, 1], [-1], [True], [(2, 4)], "1", [0.5]):
            check_raises(self, BadNumber("reach"), all_prices, BLUFF, GOOD, value)
            check_raises(self, BadNumber("reach"), lost, BLUFF, GOOD, THIRD, value, None)
            check_raises(self, BadNumber("rival_reach"), lost, BLUFF, GOOD, THIRD, [1], value)
        self.assertEqual(all_prices(reach=[1], book=GOOD, piece=BLUFF), all_prices(BLUFF, GOOD, [1]))
        self.assertEqual(lost(rival_reach=[1], reach=[1], rival_book=THIRD, book=BOLD, piece=BLUFF), (1, 3))

    def test_what_is_passed_stays(self):
        reach, theirs = [[1, 2]], [[2, 3]]
        before = repr((reach, theirs, GOOD.chances, THIRD.chances, str(BLUFF)))
        told = all_prices(BLUFF, BOLD, reach), lost(BLUFF, BOLD, THIRD, reach, theirs)
        self.assertEqual(repr((reach, theirs, GOOD.chances, THIRD.chances, str(BLUFF))), before)
        kept = repr(told)
        reach[0][0] = theirs[0][0] = 9
        self.assertEqual(repr(told), kept)


if __name__ == "__main__":
    unittest.main()
