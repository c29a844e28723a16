"""Books: how a side plays at all places of a piece."""

from planless.checks import is_list, is_weights, is_within
from planless.errors import BadBook, BadNumber, BadText, NoWay
from planless.numbers import added, made, row_text
from planless.papers import fixed
from planless.pieces import check_piece, check_side, chooses, choosing_ways, place_at
from planless.readings import Reading


def choice_counts(place):
    """Return for each hand of the side that chooses at a place how many choices it has."""
    if place.KIND == "hides":
        return list(place.counts)
    hands = place.keeper_hands if place.SIDE == "keeper" else place.rival_hands
    return [len(place.parts) for _ in range(hands)]


def counts_in(piece, side):
    """Return the counts of choices of all places where a side chooses."""
    return [choice_counts(place_at(piece, way)) for way in choosing_ways(piece, side)]


def is_chance_row(value, many):
    """Tell whether the value is a row of chances of so many choices."""
    return is_weights(value, many) and added(value) == 1


def are_chances_at(value, counts):
    """Tell whether the value has a row of chances for each hand of a place."""
    if not is_list(value) or len(value) != len(counts):
        return False
    return all([is_chance_row(row, many) for row, many in zip(value, counts)])


def are_chances(value, piece, side):
    """Tell whether the value has rows of chances for all places where a side chooses."""
    counts = counts_in(piece, side)
    if not is_list(value) or len(value) != len(counts):
        return False
    return all([are_chances_at(rows, many) for rows, many in zip(value, counts)])


class Book:
    """How a side plays a piece: for each place where it chooses, for each hand, the chances of its choices."""

    def __init__(self, piece, side, chances):
        check_piece(piece, "piece")
        check_side(side)
        if not are_chances(chances, piece, side):
            raise BadBook("chances")
        self.piece = piece
        self.side = side
        self.chances = fixed(chances)

    def __eq__(self, other):
        if not isinstance(other, Book):
            return False
        return (self.side, self.chances, self.piece) == (other.side, other.chances, other.piece)

    def __str__(self):
        return " ".join([self.side, *[f"/ {row_text(row)}" for rows in self.chances for row in rows]])

    def row(self, way, hand):
        """Return the chances of a hand at the place to which a way leads."""
        place = place_at(self.piece, way)
        if not chooses(place, self.side):
            raise NoWay(way)
        rows = self.chances[choosing_ways(self.piece, self.side).index(fixed(way))]
        if not is_within(hand, 0, len(rows) - 1):
            raise BadNumber("hand")
        return rows[hand]


def is_book(value, piece, side):
    """Tell whether the value is a book of this side for just this piece."""
    return isinstance(value, Book) and value.side == side and value.piece == piece


def check_book(value, piece, side, name):
    """Raise the error for what is no book of this side for just this piece."""
    if not is_book(value, piece, side):
        raise BadBook(name)


def chance_rows(book):
    """Return for the way to each place where the book's side chooses the rows of chances there."""
    return dict(zip(choosing_ways(book.piece, book.side), book.chances))


def first_row(many):
    """Return the row of a hand that takes choice 0 of so many."""
    return tuple([1 if at == 0 else 0 for at in range(many)])


def even_book(piece, side):
    """Return the book in which each hand has the same chance for each of its choices."""
    check_piece(piece, "piece")
    return Book(piece, side, [[[made(1, many)] * many for many in counts] for counts in counts_in(piece, side)])


def first_book(piece, side):
    """Return the book in which each hand takes choice 0."""
    check_piece(piece, "piece")
    return Book(piece, side, [[first_row(many) for many in counts] for counts in counts_in(piece, side)])


def chances_read(reading, many):
    """Take the chances of a hand that has so many choices."""
    reading.take_word(("/",))
    return [reading.take_weight() for _ in range(many)]


def book_read(piece, text):
    """Return the book of the piece whose text this is."""
    check_piece(piece, "piece")
    reading = Reading(text)
    side = reading.take_word(("keeper", "rival"))
    chances = [[chances_read(reading, many) for many in counts] for counts in counts_in(piece, side)]
    reading.check_end()
    try:
        return Book(piece, side, chances)
    except BadBook:
        raise BadText(0, reading.last())
