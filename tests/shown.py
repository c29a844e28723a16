"""Checks of papers about stands and worths, by books and fractions alone."""

from fractions_of import fraction, fractions, product
from reckoning import earned, hands_of

from planless.books import Book
from planless.cones import Broken, Held
from planless.worths import Worth


def check_book(case, book, piece, side):
    """Check that this is a book of a side for the piece."""
    case.assertIs(book.__class__, Book)
    case.assertEqual((book.piece, book.side), (piece, side))


def is_held_by(book, reach, limits):
    """Tell whether the book holds the stand."""
    return all(number <= limit for number, limit in zip(earned(book, reach), fractions(limits), strict=True))


def check_holds(case, piece, reach, limits, told):
    """Check that an answer of holds is right; return whether the stand is held."""
    if told.__class__ is Held:
        case.assertEqual((told.word, told.parts, bool(told)), ("held", (told.book,), True))
        check_book(case, told.book, piece, "keeper")
        case.assertTrue(is_held_by(told.book, reach, limits))
        return True
    case.assertIs(told.__class__, Broken)
    case.assertEqual((told.word, told.parts, bool(told)), ("broken", (told.rival_reach, told.book), False))
    check_book(case, told.book, piece, "rival")
    case.assertIsInstance(told.rival_reach, tuple)
    theirs = fractions(told.rival_reach)
    case.assertEqual((len(theirs), sum(theirs)), (hands_of(piece, "rival"), 1))
    case.assertTrue(all(number >= 0 for number in theirs))
    case.assertGreater(product(earned(told.book, told.rival_reach), fractions(reach)),
                       product(fractions(limits), theirs))
    return False


def check_worth(case, piece, reach, rival_reach, told):
    """Check that an answer of worth is right; return the number as a fraction."""
    case.assertIs(told.__class__, Worth)
    case.assertEqual((told.word, told.parts, bool(told)), ("worth", (told.number, told.book, told.rival_book), True))
    check_book(case, told.book, piece, "keeper")
    check_book(case, told.rival_book, piece, "rival")
    number = fraction(told.number)
    case.assertEqual(product(earned(told.book, reach), fractions(rival_reach)), number)
    case.assertEqual(product(earned(told.rival_book, rival_reach), fractions(reach)), number)
    return number
