"""Reaches, and what hands earn, at all places of a piece of which a book is."""

from planless.books import chance_rows
from planless.hands import earned_above, earned_at_end, reaches_below
from planless.numbers import multiplied
from planless.papers import fixed
from planless.pieces import part_ways, place_at, ways


def all_reaches(book, reach):
    """Return for each way the reach with which the book's side comes to its end."""
    rows = chance_rows(book)
    found = {(): fixed(reach)}
    for way in ways(book.piece):
        place = place_at(book.piece, way)
        below = reaches_below(place, book.side, found[way], rows.get(way))
        for part_way, part_reach in zip(part_ways(place, way), below):
            found[part_way] = part_reach
    return found


def all_earned(book, reach):
    """Return for each way what the other side's hands earn at best at its end, against the book."""
    reaches = all_reaches(book, reach)
    found = {}
    for way in reversed(ways(book.piece)):
        place = place_at(book.piece, way)
        if place.KIND == "end":
            found[way] = tuple(earned_at_end(place, book.side, reaches[way]))
        else:
            below = [found[part_way] for part_way in part_ways(place, way)]
            found[way] = tuple(earned_above(place, book.side, below))
    return found


def drawn_weights(piece):
    """Return for each way the weights of all draws on it, multiplied."""
    found = {(): 1}
    for way in ways(piece):
        place = place_at(piece, way)
        weights = place.weights if place.KIND == "draw" else [1 for _ in place.parts]
        for part_way, weight in zip(part_ways(place, way), weights):
            found[part_way] = multiplied(found[way], weight)
    return found
