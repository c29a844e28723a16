"""Errors for what is passed beside a piece."""

from planless.books import check_book
from planless.checks import is_row, is_weights
from planless.errors import BadNumber
from planless.pieces import check_piece


def check_reach(value, many, name):
    """Raise the error for what is no list of so many weights."""
    if not is_weights(value, many):
        raise BadNumber(name)


def check_limits(value, many, name):
    """Raise the error for what is no list of so many numbers."""
    if not is_row(value, many):
        raise BadNumber(name)


def check_stand(piece, reach, limits):
    """Raise the error for what is no piece, or no stand of it."""
    check_piece(piece, "piece")
    check_reach(reach, piece.keeper_hands, "reach")
    check_limits(limits, piece.rival_hands, "limits")


def check_reaches(piece, reach, rival_reach):
    """Raise the error for what is no piece, or are no reaches of both sides for it."""
    check_piece(piece, "piece")
    check_reach(reach, piece.keeper_hands, "reach")
    check_reach(rival_reach, piece.rival_hands, "rival_reach")


def check_answered(piece, book, side, reach, name):
    """Raise the error for what is no piece, no book of this side for it, or no reach of this side."""
    check_piece(piece, "piece")
    check_book(book, piece, side, "book")
    check_reach(reach, piece.keeper_hands if side == "keeper" else piece.rival_hands, name)


def check_played(piece, book, name, rival_book, reach, rival_reach):
    """Raise the error for what is no piece, or are no books and no reaches of both sides for it.

    The name is that of the keeper's book.
    """
    check_piece(piece, "piece")
    check_book(book, piece, "keeper", name)
    check_book(rival_book, piece, "rival", "rival_book")
    check_reach(reach, piece.keeper_hands, "reach")
    check_reach(rival_reach, piece.rival_hands, "rival_reach")
