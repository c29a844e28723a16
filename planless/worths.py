"""What a piece is worth."""

from planless.arguments import check_reaches
from planless.best_books import best_books
from planless.papers import Paper


class Worth(Paper):
    """The worth of a piece, and a book of either side that shows it."""

    def __init__(self, number, book, rival_book):
        Paper.__init__(self, "worth", number, book, rival_book)
        self.number, self.book, self.rival_book = self.parts


def worth(piece, reach, rival_reach):
    """Return the worth of a piece at a reach and a rival reach."""
    check_reaches(piece, reach, rival_reach)
    number, book, rival_book = best_books(piece, reach, rival_reach)
    return Worth(number, book, rival_book)
