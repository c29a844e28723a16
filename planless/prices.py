"""What the rival's choices give away against a book of the keeper."""

from planless.arguments import check_answered, check_played
from planless.books import chance_rows
from planless.earnings import all_earned, all_reaches, drawn_weights
from planless.hands import by_choice
from planless.numbers import added, matched_sum, minus, multiplied
from planless.pieces import choosing_ways, part_ways, place_at


def price_rows(book, reach):
    """Return for the way to each place where the rival chooses the prices of each hand's choices."""
    earned = all_earned(book, reach)
    found = {}
    for way in choosing_ways(book.piece, "rival"):
        place = place_at(book.piece, way)
        rows = by_choice(place, [earned[part_way] for part_way in part_ways(place, way)])
        found[way] = [[minus(best, number) for number in row] for best, row in zip(earned[way], rows)]
    return found


def all_prices(piece, book, reach):
    """Return the way, the hand, the number and the price of each choice of the rival."""
    check_answered(piece, book, "keeper", reach, "reach")
    return tuple([(way, hand, choice, price) for way, rows in price_rows(book, reach).items()
                  for hand, row in enumerate(rows) for choice, price in enumerate(row)])


def lost(piece, book, rival_book, reach, rival_reach):
    """Return what the rival gives away by its book against a book of the keeper."""
    check_played(piece, book, "book", rival_book, reach, rival_reach)
    reaches, weights = all_reaches(rival_book, rival_reach), drawn_weights(piece)
    chances = chance_rows(rival_book)
    found = []
    for way, rows in price_rows(book, reach).items():
        given = [matched_sum(row, prices) for row, prices in zip(chances[way], rows)]
        found.append(multiplied(weights[way], matched_sum(reaches[way], given)))
    return added(found)
