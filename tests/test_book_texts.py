import unittest

from examples import check_raises
from test_books import DEEP_CHANCES
from trees import BLUFF, DEEP, HIDE, NO_PIECES, great_places, places_of_all_kinds

from planless.books import Book, book_read, even_book, first_book
from planless.errors import BadPiece, BadText
from planless.pieces import End
from planless.worths import worth

DEEP_TEXT = "keeper / 1 / 0 1/4 3/4 / 1 0 / 0 1 / 1/2 1/2 / 1/3 2/3"


class BookTextTest(unittest.TestCase):
    def refuse(self, piece, text, item):
        with self.subTest(text):
            check_raises(self, BadText(0, item), book_read, piece, text)

    def test_text(self):
        self.assertEqual(str(Book(DEEP, "keeper", DEEP_CHANCES)), DEEP_TEXT)
        self.assertEqual(str(even_book(DEEP, "rival")), "rival / 1")
        self.assertEqual(str(even_book(End([[1]]), "keeper")), "keeper")
        self.assertEqual(str(first_book(HIDE, "rival")), "rival / 1 0")

    def test_read(self):
        book = book_read(text=DEEP_TEXT, piece=DEEP)
        self.assertEqual(book, Book(DEEP, "keeper", DEEP_CHANCES))
        self.assertEqual(repr(book.chances), repr(Book(DEEP, "keeper", DEEP_CHANCES).chances))
        self.assertEqual(book_read(DEEP, "rival / 1"), even_book(DEEP, "rival"))
        for side in ("keeper", "rival"):
            self.assertEqual(book_read(End([[1]]), side), Book(End([[1]]), side, ()))

    def test_there_and_back(self):
        for piece in places_of_all_kinds(9, 22):
            for side in ("keeper", "rival"):
                for book in (even_book(piece, side), first_book(piece, side)):
                    again = book_read(piece, str(book))
                    self.assertEqual(again, book)
                    self.assertEqual(str(again), str(book))
        for piece in great_places(5, 22):
            told = worth(piece, [1] * piece.keeper_hands, [1] * piece.rival_hands)
            for book in (told.book, told.rival_book):
                if max(len(part) for item in str(book).split(" ") for part in item.split("/")) <= 60:
                    self.assertEqual(book_read(piece, str(book)), book)

    def test_each_item_bent(self):
        words = DEEP_TEXT.split(" ")
        for at, word in enumerate(words):
            for bent in ("", "-", "x", "1.0", "+1", "01", "-1", "-0", "1/0", "2/4", "3/1", "0/2", "-1/2", "1//2", "1/-2",
                         "//", "keeper", "rivals", "\n1", "1\n", "\u0661", "1_0", "1" + "0" * 60, "1/1" + "0" * 60):
                if bent != word:
                    self.refuse(DEEP, " ".join(words[:at] + [bent] + words[at + 1:]), at)
            # An item that is left out lets a later one stand where it cannot.
            self.refuse(DEEP, " ".join(words[:at]), at)
            if word != "/" and at:
                self.refuse(DEEP, " ".join(words[:at] + ["/"] + words[at + 1:]), at)
            if word == "/":
                self.refuse(DEEP, " ".join(words[:at] + ["1"] + words[at + 1:]), at)
                self.refuse(DEEP, " ".join(words[:at] + words[at + 1:]), at)
                self.refuse(DEEP, " ".join(words[:at] + ["/"] + words[at:]), at + 1)

    def test_numbers_of_other_forms(self):
        for item, text in ((2, "keeper / 1/1 / 2/3 1/3"), (5, "keeper / 0 1 / 4/6 1/3"), (2, "keeper / 00 1 / 2/3 1/3"),
                           (3, "keeper / 0 1.0 / 2/3 1/3"), (3, "keeper / 0 one / 2/3 1/3"), (5, "keeper / 0 1 / -2/3 5/3"),
                           (6, "keeper / 0 1 / 2/3 0.333"), (6, "keeper / 0 1 / 2/3 2/6"), (3, "keeper / 0 +1 / 2/3 1/3")):
            self.refuse(BLUFF, text, item)

    def test_sums_of_the_whole(self):
        # A row that does not sum to 1 is shown by the whole only: the last item is told.
        for text in ("keeper / 0 1 / 2/3 1/2", "keeper / 0 2 / 2/3 1/3", "keeper / 0 0 / 2/3 1/3", "keeper / 1 1 / 1 0",
                     "keeper / 1 1/3 / 0 1"):
            self.refuse(BLUFF, text, 6)
        self.refuse(DEEP, "rival / 0", 2)
        self.refuse(DEEP, "rival / 1/2", 2)
        self.refuse(DEEP, DEEP_TEXT.replace("/ 1 / 0", "/ 2 / 0"), len(DEEP_TEXT.split(" ")) - 1)
        # What cannot stand is told ahead of a sum.
        self.refuse(BLUFF, "keeper / 2 2 / 2/3 x", 6)
        self.refuse(BLUFF, "keeper / 2 2 / 2/3", 6)
        self.refuse(BLUFF, "keeper / 2 2 / 2/3 1/3 1", 7)

    def test_one_too_many(self):
        for more in ("", "/", "0", "/ 1", "keeper"):
            self.refuse(BLUFF, f"keeper / 0 1 / 2/3 1/3 {more}", 7)
            self.refuse(End([[1]]), f"keeper {more}", 1)
        self.refuse(BLUFF, " keeper / 0 1 / 2/3 1/3", 0)
        self.refuse(BLUFF, "keeper  / 0 1 / 2/3 1/3", 1)

    def test_sides(self):
        self.refuse(BLUFF, "rival / 0 1 / 2/3 1/3", 4)
        self.refuse(BLUFF, "keeper / 0 1", 4)
        self.refuse(BLUFF, "keeper", 1)
        for text in ("", "Keeper / 0 1 / 2/3 1/3", "/ 0 1", "keepers", "keeper\t/"):
            self.refuse(BLUFF, text, 0)

    def test_long_numbers(self):
        below = 10 ** 60 - 1
        text = f"keeper / 1/{below} {below - 1}/{below}"
        self.assertEqual(str(book_read(HIDE, text)), text)
        self.refuse(HIDE, f"keeper / 1/{below + 1} {below}/{below + 1}", 2)
        # Its text may have longer numbers than can be read.
        long = Book(HIDE, "keeper", [[[(1, below + 1), (below, below + 1)]]])
        self.assertEqual(str(long), f"keeper / 1/{below + 1} {below}/{below + 1}")

    def test_no_text(self):
        for value in (None, 1, b"keeper", ["keeper"], ("keeper",), Book(End([[1]]), "keeper", ())):
            self.refuse(End([[1]]), value, 0)
        for value in NO_PIECES:
            check_raises(self, BadPiece("piece"), book_read, value, None)
            check_raises(self, BadPiece("piece"), book_read, value, "keeper")


if __name__ == "__main__":
    unittest.main()
