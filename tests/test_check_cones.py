import random
import unittest

from examples import check_raises
from fractions_of import fractions, listed, number, product
from reckoning import earned
from shown import is_held_by
from trees import BLUFF, DEEP, NO_PIECES, any_book, any_numbers, any_reach, great_places, places_of_all_kinds

from planless.answers import best_answer, best_limits
from planless.books import Book, even_book, first_book
from planless.check_cones import shows_holds, shows_worth
from planless.cones import Broken, Held, holds
from planless.errors import BadNumber, BadPiece
from planless.papers import Denial, Paper
from planless.pieces import Draw, End, KeeperMove, RivalMove
from planless.worths import Worth, worth

THREE = KeeperMove((End(((0, 1, -1),)), End(((-1, 0, 1),)), End(((1, -1, 0),))))
EVEN, IDLE = even_book(THREE, "keeper"), Book(THREE, "rival", ())
THIRDS = [(1, 3), (1, 3), (1, 3)]


class HeldBelow(Held):
    """No Held: it was made by a class below it."""


class BrokenBelow(Broken):
    """No Broken."""


class WorthBelow(Worth):
    """No Worth."""


class CheckConesTest(unittest.TestCase):
    def test_answers_are_right(self):
        draw = random.Random(91)
        for piece in places_of_all_kinds(9, 91) + great_places(8, 91):
            reach, theirs = any_reach(draw, piece.keeper_hands), any_reach(draw, piece.rival_hands)
            self.assertIs(shows_worth(piece, reach, theirs, worth(piece, reach, theirs)), True)
            limits = best_limits(piece, any_book(draw, piece, "keeper"), reach)
            self.assertIs(shows_holds(piece, reach, limits, holds(piece, reach, limits)), True)
            limits = any_numbers(draw, piece.rival_hands)
            told = holds(piece, reach, limits)
            self.assertIs(shows_holds(piece, reach, limits, told), True)
            self.assertIs(shows_holds(piece, listed(reach), tuple(limits), told), True)
            # One that tells the other answer is never right.
            other = Broken([(1, piece.rival_hands)] * piece.rival_hands if piece.rival_hands > 1 else [1],
                           first_book(piece, "rival")) if told else Held(first_book(piece, "keeper"))
            self.assertIs(shows_holds(piece, reach, limits, other), False)

    def test_any_books(self):
        draw = random.Random(92)
        told = []
        for piece in places_of_all_kinds(12, 92):
            for _ in range(3):
                reach, theirs = any_reach(draw, piece.keeper_hands), any_reach(draw, piece.rival_hands)
                if any(theirs):
                    theirs = [number(value / sum(fractions(theirs))) for value in fractions(theirs)]
                mine, other = any_book(draw, piece, "keeper"), any_book(draw, piece, "rival")
                limits = best_limits(piece, any_book(draw, piece, "keeper"), reach)
                self.assertIs(shows_holds(piece, reach, limits, Held(mine)), is_held_by(mine, reach, limits))
                most = product(fractions(earned_numbers(mine, reach)), fractions(theirs))
                fewest = product(earned(other, theirs), fractions(reach))
                limits = any_numbers(draw, piece.rival_hands)
                is_right = fewest > product(fractions(limits), fractions(theirs)) and any(theirs)
                self.assertIs(shows_holds(piece, reach, limits, Broken(theirs, other)), is_right)
                for value in (most, fewest, (most + fewest) / 2):
                    self.assertIs(shows_worth(piece, reach, theirs, Worth(number(value), mine, other)), most == fewest)
                told.append((is_right, most == fewest))
        self.assertEqual({right for right, _ in told}, {True, False})
        self.assertEqual({right for _, right in told}, {True, False})

    def test_any_held_book_will_do(self):
        other = Book(THREE, "keeper", [[[(1, 2), (1, 2), 0]]])
        for book, limits, told in (
            (EVEN, [0, 0, 0], True), (EVEN, [5, (1, 2), 0], True), (EVEN, [0, 0, (-1, 10 ** 9)], False),
            (other, [0, (1, 2), 0], True), (other, [(-1, 2), (1, 2), 0], True), (other, [-1, 1, 1], False),
            (other, [(-1, 2), (1, 2), (-1, 10 ** 9)], False),
        ):
            self.assertIs(shows_holds(THREE, [1], limits, Held(book)), told)

    def test_broken_just_and_a_little_below(self):
        for limits, told in (([0, 0, (-1, 10 ** 30)], True), ([0, 0, 0], False), ([1, -1, 0], False),
                             ([7, -8, 0], True), ([7, -8, (10 ** 30 - 1, 10 ** 30)], True), ([7, -8, 1], False)):
            self.assertIs(shows_holds(THREE, [1], limits, Broken(THIRDS, IDLE)), told)
            self.assertIs(shows_holds(THREE, (1,), tuple(limits), Broken(tuple(THIRDS), IDLE)), told)
        self.assertIs(shows_holds(THREE, [0], [0, 0, (-1, 9)], Broken(THIRDS, IDLE)), True)
        self.assertIs(shows_holds(THREE, [0], [0, 0, (-1, 9)], Broken([0, 0, 1], IDLE)), True)
        self.assertIs(shows_holds(THREE, [0], [0, 0, (-1, 9)], Broken([0, 1, 0], IDLE)), False)

    def test_rival_reaches_of_none(self):
        limits = [0, 0, -1]
        for theirs in ([1, 1, 1], [0, 0, 0], [(1, 3), (1, 3)], [(1, 3)] * 4, [(2, 6), (1, 3), (1, 3)], [1, 1, -1],
                       [(1, 3), (1, 3), (1, 2)], [True, False, False], [False, False, True], [1.0, 0, 0], None, 1, "100",
                       [(1, 3), (1, 3), "1/3"], {0: 1}, [[1, 3], [1, 3], [2, 3]]):
            self.assertIs(shows_holds(THREE, [1], limits, Broken(theirs, IDLE)), False)
        self.assertIs(shows_holds(THREE, [1], limits, Broken([[1, 3], [1, 3], [1, 3]], IDLE)), True)
        one = End([[3]])
        for theirs, told in (([1], True), ([True], False), ([(1, 1)], False), ([2], False), ([0], False)):
            self.assertIs(shows_holds(one, [1], [2], Broken(theirs, Book(one, "rival", ()))), told)

    def test_books_of_other_sides_and_pieces(self):
        same = KeeperMove([End([[0, 1, -1]]), End([[-1, 0, 1]]), End([[1, -1, 0]])])
        near = KeeperMove([End([[0, 1, -1]]), End([[-1, 0, 1]]), End([[1, -1, -1]])])
        nought = [0, 0, 0]
        self.assertIs(shows_holds(THREE, [1], nought, Held(even_book(same, "keeper"))), True)
        for book in (even_book(near, "keeper"), IDLE, even_book(BLUFF, "keeper"), EVEN.chances, str(EVEN), THREE, None):
            self.assertIs(shows_holds(THREE, [1], nought, Held(book)), False)
            self.assertIs(shows_worth(THREE, [1], [1, 1, 1], Worth(0, book, IDLE)), False)
        for book in (even_book(near, "rival"), EVEN, Book(End([[1, 1, 1]]), "rival", ()), (), None):
            self.assertIs(shows_holds(THREE, [1], [0, 0, -1], Broken(THIRDS, book)), False)
            self.assertIs(shows_worth(THREE, [1], [1, 1, 1], Worth(0, EVEN, book)), False)
        # Where nobody chooses all books of a side have the same chances.
        end = End([[2]])
        mine, theirs = Book(end, "keeper", ()), Book(end, "rival", ())
        self.assertIs(shows_holds(end, [1], [2], Held(mine)), True)
        self.assertIs(shows_holds(end, [1], [2], Held(theirs)), False)
        self.assertIs(shows_worth(end, [1], [1], Worth(2, mine, theirs)), True)
        self.assertIs(shows_worth(end, [1], [1], Worth(2, theirs, mine)), False)
        self.assertIs(shows_worth(end, [1], [1], Worth(2, mine, Book(Draw([1], [end]), "rival", ()))), False)

    def test_numbers_of_worths(self):
        half = End([[(1, 2)]])
        mine, theirs = Book(half, "keeper", ()), Book(half, "rival", ())
        for value, told in (((1, 2), True), ([1, 2], True), ((2, 4), False), (0.5, False), ("1/2", False), (None, False),
                            ((-1, 2), False), (1, False), ((1, 2, 3), False)):
            self.assertIs(shows_worth(half, [1], [1], Worth(value, mine, theirs)), told)
        for pay, value in ((1, True), (0, False), (1, (1, 1)), (0, 0.0), (1, "1")):
            end = End([[pay]])
            mine, theirs = Book(end, "keeper", ()), Book(end, "rival", ())
            self.assertIs(shows_worth(end, [1], [1], Worth(value, mine, theirs)), False)
            self.assertIs(shows_worth(end, [1], [1], Worth(pay, mine, theirs)), True)

    def test_worths_of_other_reaches(self):
        told = worth(BLUFF, [1], [1])
        for reach, theirs, is_right in (([1], [1], True), ([2], [1], False), ([1], [2], False), ([2], [(1, 2)], True),
                                        ([0], [1], False)):
            self.assertIs(shows_worth(BLUFF, reach, theirs, told), is_right)
        self.assertIs(shows_worth(BLUFF, [2], [1], Worth((-2, 3), told.book, told.rival_book)), True)
        self.assertIs(shows_worth(BLUFF, [0], [1], Worth(0, told.book, told.rival_book)), True)
        bold = first_book(BLUFF, "keeper")
        self.assertIs(shows_worth(BLUFF, [1], [1], Worth((-1, 3), bold, told.rival_book)), False)
        self.assertIs(shows_worth(BLUFF, [1], [1], Worth((-1, 3), told.book, best_answer(BLUFF, bold, [1]))), False)

    def test_other_values(self):
        told, theirs = worth(THREE, [1], [1, 1, 1]), Broken(THIRDS, IDLE)
        for value in (None, True, 0, "held", EVEN, (EVEN,), Paper("held", EVEN), HeldBelow(EVEN), Denial("held", EVEN),
                      Held, told, theirs, {}, [Held(EVEN)]):
            self.assertIs(shows_holds(THREE, [1], [0, 0, 0], value), False)
        for value in (Denial("broken", THIRDS, IDLE), BrokenBelow(THIRDS, IDLE), Paper("broken", THIRDS, IDLE), Broken,
                      (THIRDS, IDLE), None, False, Held(EVEN), told):
            self.assertIs(shows_holds(THREE, [1], [0, 0, -1], value), False)
        self.assertIs(shows_worth(THREE, [1], [1, 1, 1], told), True)
        for value in (None, 0, told.parts, Paper("worth", 0, EVEN, IDLE), WorthBelow(0, EVEN, IDLE), Held(EVEN), Worth,
                      Denial("worth", *told.parts), [told]):
            self.assertIs(shows_worth(THREE, [1], [1, 1, 1], value), False)

    def test_wrong_values(self):
        told = worth(BLUFF, [1], [1])
        for value in NO_PIECES:
            check_raises(self, BadPiece("piece"), shows_holds, value, None, None, None)
            check_raises(self, BadPiece("piece"), shows_worth, value, None, None, told)
        for value in (None, [], [1], [1, -1], [1, True], [1, 1, 1], "11", [1, (2, 2)]):
            check_raises(self, BadNumber("reach"), shows_holds, DEEP, value, None, None)
            check_raises(self, BadNumber("reach"), shows_worth, DEEP, value, None, told)
        for value in (None, 1, [], [1, 1], [True], "1", [(2, 4)]):
            check_raises(self, BadNumber("limits"), shows_holds, DEEP, [1, 1], value, None)
            check_raises(self, BadNumber("rival_reach"), shows_worth, DEEP, [1, 1], value, told)
        # Limits may be below 0, a rival reach may not.
        self.assertIs(shows_holds(BLUFF, [1], [-1], holds(BLUFF, [1], [-1])), True)
        check_raises(self, BadNumber("rival_reach"), shows_worth, BLUFF, [1], [-1], told)
        self.assertIs(shows_holds(value=Held(EVEN), limits=[0, 0, 0], reach=[1], piece=THREE), True)
        self.assertIs(shows_worth(value=told, rival_reach=[1], reach=[1], piece=BLUFF), True)

    def test_what_is_passed_stays(self):
        reach, limits, thirds = [1], [0, 0, [-1, 2]], listed(THIRDS)
        paper = Broken(thirds, IDLE)
        before = repr((reach, limits, paper.parts[0], IDLE.chances))
        self.assertIs(shows_holds(THREE, reach, limits, paper), True)
        self.assertEqual(repr((reach, limits, paper.parts[0], IDLE.chances)), before)
        thirds[0] = 7
        self.assertIs(shows_holds(THREE, reach, limits, paper), True)

    def test_the_rival_chooses(self):
        piece = RivalMove([End([[0, 3]]), End([[2, 0]])])
        best, other = Book(piece, "rival", [[[0, 1], [1, 0]]]), Book(piece, "rival", [[[1, 0], [0, 1]]])
        for theirs, book, told in (([(1, 2), (1, 2)], best, True), ([(1, 2), (1, 2)], other, False), ([1, 0], best, False),
                                   ([0, 1], best, True), ([0, 1], other, False)):
            self.assertIs(shows_holds(piece, [1], [2, (5, 2)], Broken(theirs, book)), told)


def earned_numbers(book, reach):
    """Return as numbers what the other side's hands earn."""
    return [number(value) for value in earned(book, reach)]


if __name__ == "__main__":
    unittest.main()
