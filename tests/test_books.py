import random
import unittest

from examples import check_raises
from fractions_of import listed
from reckoning import choosing
from trees import DEEP, HIDE, NO_PIECES, places_of_all_kinds

from planless.books import Book, even_book, first_book
from planless.errors import BadBook, BadNumber, BadPiece, Misfit, NoWay
from planless.pieces import Draw, End, KeeperHides, KeeperMove, RivalMove

DEEP_CHANCES = [[[1], [0, (1, 4), (3, 4)]], [[1, 0], [0, 1], [(1, 2), (1, 2)], [(1, 3), (2, 3)]]]


class BookTest(unittest.TestCase):
    def test_attributes(self):
        book = Book(DEEP, "keeper", DEEP_CHANCES)
        self.assertEqual(book.piece, DEEP)
        self.assertEqual(book.side, "keeper")
        self.assertEqual(repr(book.chances), repr((
            ((1,), (0, (1, 4), (3, 4))), ((1, 0), (0, 1), ((1, 2), (1, 2)), ((1, 3), (2, 3))))))
        self.assertEqual(Book(chances=[[[1]]], side="rival", piece=KeeperHides([2], RivalMove([End([[1], [2]])]))).chances,
                         (((1,),),))

    def test_no_choice(self):
        for side in ("keeper", "rival"):
            for nothing in ([], ()):
                self.assertEqual(Book(End([[1, 2]]), side, nothing).chances, ())
            for wrong in ([[]], [[[1]]], None, "", {}):
                check_raises(self, BadBook("chances"), Book, End([[1, 2]]), side, wrong)
        self.assertEqual(Book(Draw([0], [End([[1]])]), "rival", []).chances, ())
        self.assertEqual(Book(RivalMove([End([[1]]), End([[2]])]), "keeper", []).chances, ())

    def test_equal(self):
        book = Book(DEEP, "keeper", DEEP_CHANCES)
        same = KeeperHides((1, 3), KeeperMove((End([[1]] * 4), RivalMove([End([[2]] * 4)]))))
        self.assertEqual(book, Book(same, "keeper", book.chances))
        self.assertNotEqual(book, first_book(DEEP, "keeper"))
        self.assertNotEqual(book, Book(KeeperHides([1, 3], KeeperMove([End([[1]] * 4)] * 2)), "keeper", DEEP_CHANCES))
        self.assertNotEqual(Book(End([[1]]), "keeper", []), Book(End([[1]]), "rival", []))
        self.assertNotEqual(Book(End([[1]]), "keeper", []), Book(End([[2]]), "keeper", []))
        for other in (None, 1, "keeper", DEEP, book.chances, ("keeper", book.chances)):
            self.assertIs(book == other, False)

    def test_chances_of_no_book(self):
        first, second = DEEP_CHANCES
        for wrong in (
            None, 0, "keeper", {}, [], first, [first], [second], [second, first], [first, second, second],
            [first, second, []], [first, second[:3]], [first, second + [[1, 0]]], [first[:1], second],
            [first[::-1], second], [[first[1]], second], [[[], first[1]], second], [[1, first[1]], second],
            [[[(1, 2)], first[1]], second], [[[2], first[1]], second], [[[0], first[1]], second],
            [[[1], [0, 1]], second], [[[1], [0, 0, 0, 1]], second], [[[1], [0, (1, 4), (1, 4)]], second],
            [[[1], [0, (1, 2), (3, 4)]], second], [[[1], [-1, 1, 1]], second], [[[1], [(-1, 2), (1, 2), 1]], second],
            [[[1], [0, (2, 4), (1, 2)]], second], [[[1], [0, 0, (1, 1)]], second], [[[1], [0, 0, True]], second],
            [[[True], first[1]], second], [[[1], [0, 0, 1.0]], second], [[[1], [0, 0, "1"]], second],
            [[[1], "001"], second], [[[1], None], second], [None, second], [first, None],
            [[[1], {0: 0, 1: 0, 2: 1}], second],
        ):
            with self.subTest(wrong):
                check_raises(self, BadBook("chances"), Book, DEEP, "keeper", wrong)
        check_raises(self, BadBook("chances"), Book, DEEP, "rival", DEEP_CHANCES)
        self.assertEqual(Book(DEEP, "rival", [[[1]]]).side, "rival")

    def test_a_row_like_a_number(self):
        # (0, 1) is a row of two chances here, and no number.
        piece = KeeperMove([End([[1]]), End([[2]])])
        self.assertEqual(Book(piece, "keeper", [[(0, 1)]]).row((), 0), (0, 1))
        check_raises(self, BadBook("chances"), Book, piece, "keeper", [[(1, 2)]])
        self.assertEqual(Book(piece, "keeper", ([((1, 2), [1, 2])],)).chances, ((((1, 2), (1, 2)),),))

    def test_long_numbers(self):
        below = 10 ** 60 - 1
        book = Book(HIDE, "keeper", [[[(1, below), (below - 1, below)]]])
        self.assertEqual(book.row((), 0), ((1, below), (below - 1, below)))
        check_raises(self, BadBook("chances"), Book, HIDE, "keeper", [[[(1, below), (below - 2, below)]]])

    def test_order_of_errors(self):
        for value in NO_PIECES:
            check_raises(self, BadPiece("piece"), Book, value, "keeper", [])
            check_raises(self, BadPiece("piece"), Book, value, "other", None)
            check_raises(self, BadPiece("piece"), even_book, value, "other")
            check_raises(self, BadPiece("piece"), first_book, value, "other")
        for value in (None, "", "Keeper", "both", 0, ["keeper"], b"keeper", True):
            check_raises(self, Misfit("side"), Book, HIDE, value, None)
            check_raises(self, Misfit("side"), even_book, HIDE, value)
            check_raises(self, Misfit("side"), first_book, HIDE, value)

    def test_row(self):
        book = Book(DEEP, "keeper", DEEP_CHANCES)
        for way, rows in (((), DEEP_CHANCES[0]), ((0,), DEEP_CHANCES[1])):
            for hand, row in enumerate(rows):
                self.assertEqual(book.row(way, hand), tuple(row))
                self.assertEqual(book.row(list(way), hand), tuple(row))
        self.assertEqual(book.row(hand=1, way=[]), (0, (1, 4), (3, 4)))
        for way in ((1,), (0, 0), (0, 1), [0, 1], (0, 1, 0), (0, 2), (-1,), (0, -1), None, 0, "", "0", {}, (True,),
                    (False,), ((0,),), (0.0,)):
            check_raises(self, NoWay(way), book.row, way, 0)
            check_raises(self, NoWay(way), book.row, way, None)
        for way, many in (((), 2), ([0], 4)):
            for hand in (-1, many, None, "0", True, (0,), 0.0):
                check_raises(self, BadNumber("hand"), book.row, way, hand)
        rival = even_book(DEEP, "rival")
        self.assertEqual(rival.row((0, 1), 0), (1,))
        check_raises(self, NoWay(()), rival.row, (), 0)

    def test_even_and_first(self):
        self.assertEqual(even_book(DEEP, "keeper").chances, (
            ((1,), ((1, 3), (1, 3), (1, 3))), (((1, 2), (1, 2)),) * 4))
        self.assertEqual(first_book(DEEP, "keeper").chances, (((1,), (1, 0, 0)), ((1, 0),) * 4))
        self.assertEqual(first_book(piece=DEEP, side="rival"), Book(DEEP, "rival", [[[1]]]))
        self.assertEqual(even_book(side="rival", piece=DEEP), Book(DEEP, "rival", [[[1]]]))
        for side in ("keeper", "rival"):
            self.assertEqual(even_book(End([[1]]), side), first_book(End([[1]]), side))

    def test_all_kinds(self):
        draw = random.Random(21)
        for piece in places_of_all_kinds(9, 21):
            for side in ("keeper", "rival"):
                spots = choosing(piece, side)
                for made in (even_book, first_book):
                    book = made(piece, side)
                    self.assertEqual((book.piece, book.side), (piece, side))
                    self.assertEqual([[len(row) for row in rows] for rows in book.chances],
                                     [counts for _, counts in spots])
                    self.assertEqual(Book(piece, side, listed(book.chances)), book)
                    for at, (way, counts) in enumerate(spots):
                        for hand, many in enumerate(counts):
                            row = tuple([1 if many == 1 else (1, many)] * many)
                            if made is first_book:
                                row = (1,) + (0,) * (many - 1)
                            self.assertEqual(book.row(way, hand), row)
                if spots:
                    # One place, one hand and one chance too few and too many.
                    rows = listed(even_book(piece, side).chances)
                    at = draw.randrange(len(rows))
                    hand = draw.randrange(len(rows[at]))
                    for wrong in (rows[:at] + rows[at + 1:], rows[:at] + rows[at:at + 1] + rows[at:]):
                        check_raises(self, BadBook("chances"), Book, piece, side, wrong)
                    for here in (rows[at][:hand] + rows[at][hand + 1:], rows[at][:hand + 1] + rows[at][hand:],
                                 rows[at][:hand] + [rows[at][hand] + [0]] + rows[at][hand + 1:],
                                 rows[at][:hand] + [rows[at][hand][:-1]] + rows[at][hand + 1:]):
                        check_raises(self, BadBook("chances"), Book, piece, side, rows[:at] + [here] + rows[at + 1:])

    def test_what_is_passed_stays(self):
        chances = listed(DEEP_CHANCES)
        before = repr(chances)
        book = Book(DEEP, "keeper", chances)
        way = [0]
        book.row(way, 2)
        self.assertEqual((repr(chances), way), (before, [0]))
        told = repr(book.chances)
        chances[0][1][0] = 5
        chances[1].append(None)
        self.assertEqual(repr(book.chances), told)
        self.assertEqual(book, Book(DEEP, "keeper", DEEP_CHANCES))


if __name__ == "__main__":
    unittest.main()
