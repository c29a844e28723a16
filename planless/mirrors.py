"""Pieces and books with the sides exchanged."""

from planless.books import Book
from planless.errors import BadBook
from planless.numbers import multiplied
from planless.pieces import (
    Draw, End, KeeperHides, KeeperMove, KeeperSees, KeeperShows, RivalHides, RivalMove, RivalSees, RivalShows,
    check_piece)


def mirrored_end(place):
    """Return an end that pays the keeper what this one pays the rival."""
    return End([[multiplied(-1, row[hand]) for row in place.table] for hand in range(place.rival_hands)])


def keeper_place(place, parts):
    """Return the keeper's place of the kind that this place of the rival has, with other parts."""
    match place.KIND:
        case "move":
            return KeeperMove(parts)
        case "hides":
            return KeeperHides(place.counts, parts[0])
        case "sees":
            return KeeperSees(place.weights, parts[0])
    return KeeperShows(place.lots, parts)


def rival_place(place, parts):
    """Return the rival's place of the kind that this place of the keeper has, with other parts."""
    match place.KIND:
        case "move":
            return RivalMove(parts)
        case "hides":
            return RivalHides(place.counts, parts[0])
        case "sees":
            return RivalSees(place.weights, parts[0])
    return RivalShows(place.lots, parts)


def mirrored_place(place):
    """Return a place with the sides exchanged, all the way in."""
    parts = [mirrored_place(part) for part in place.parts]
    if place.KIND == "end":
        return mirrored_end(place)
    if place.KIND == "draw":
        return Draw(place.weights, parts)
    return rival_place(place, parts) if place.SIDE == "keeper" else keeper_place(place, parts)


def mirrored(piece):
    """Return the piece with the sides exchanged."""
    check_piece(piece, "piece")
    return mirrored_place(piece)


def mirrored_book(book):
    """Return the book of the other side for the mirrored piece."""
    if not isinstance(book, Book):
        raise BadBook("book")
    return Book(mirrored_place(book.piece), "rival" if book.side == "keeper" else "keeper", book.chances)
