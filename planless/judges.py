"""Whether a book is the best there is, and rows of limits that show it."""

from planless.answers import best_answer
from planless.arguments import check_answered
from planless.books import check_book
from planless.checks import is_list, is_row
from planless.earnings import all_earned, all_reaches
from planless.errors import BadPiece
from planless.hands import earned_above, earned_at_end
from planless.numbers import are_within
from planless.papers import Denial, Paper
from planless.pieces import is_piece, part_ways, place_at, ways
from planless.worths import worth


class Unbeaten(Paper):
    """These are the best limits of all places by the book, and a rival's book by which none does better."""

    def __init__(self, limits, rival_book):
        Paper.__init__(self, "unbeaten", limits, rival_book)
        self.limits, self.rival_book = self.parts


class Beaten(Denial):
    """The rival's book is paid more by the judged book than any rival's book by the keeper's one told here."""

    def __init__(self, rival_book, book):
        Denial.__init__(self, "beaten", rival_book, book)
        self.rival_book, self.book = self.parts


def check_game(game):
    """Raise the error for what is no game."""
    if not is_piece(game) or (game.keeper_hands, game.rival_hands) != (1, 1):
        raise BadPiece("game")


def judged(game, book):
    """Return what shows whether the book of the game is unbeaten."""
    check_game(game)
    check_book(book, game, "keeper", "book")
    told = worth(game, (1,), (1,))
    limits = all_earned(book, (1,))
    if limits[()] == (told.number,):
        return Unbeaten([limits[way] for way in ways(game)], told.rival_book)
    return Beaten(best_answer(game, book, (1,)), told.book)


def are_rows(piece, value):
    """Tell whether the value has a number at each place of a piece for each of the rival's hands."""
    found = ways(piece)
    if not is_list(value) or len(value) != len(found):
        return False
    return all([is_row(row, place_at(piece, way).rival_hands) for way, row in zip(found, value)])


def asked_at(place, way, reach, limits):
    """Return what the limits of a place must not be below, by the reach there and the limits of the parts."""
    if place.KIND == "end":
        return earned_at_end(place, "keeper", reach)
    return earned_above(place, "keeper", [limits[part_way] for part_way in part_ways(place, way)])


def fits(piece, book, reach, rows):
    """Tell whether the value rows are limits of all places that fit beside the book."""
    check_answered(piece, book, "keeper", reach, "reach")
    if not are_rows(piece, rows):
        return False
    reaches = all_reaches(book, reach)
    limits = dict(zip(ways(piece), rows))
    return all([are_within(asked_at(place_at(piece, way), way, reaches[way], limits), limits[way])
                for way in ways(piece)])
