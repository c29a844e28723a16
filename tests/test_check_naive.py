import random
import unittest
from fractions import Fraction

from examples import check_raises
from fractions_of import fraction, fractions, listed, number, product
from guesses import stands_just_safe, stands_with_guesses
from reckoning import earned
from trees import BLUFF, DEEP, NO_PIECES, any_book

from planless.books import Book, even_book, first_book
from planless.check_naive import shows_naive
from planless.cones import holds
from planless.errors import BadNumber, BadPiece
from planless.naive import Robbed, Safe, naive_safe
from planless.papers import Denial, Paper
from planless.pieces import End, KeeperMove, RivalMove

THREE = KeeperMove((End(((0, 1, -1),)), End(((-1, 0, 1),)), End(((1, -1, 0),))))
STONE, NONE = Book(THREE, "keeper", [[[1, 0, 0]]]), Book(THREE, "rival", ())
EVEN = even_book(THREE, "keeper")
LITTLE = Fraction(1, 10 ** 30)
ONES = [1, 1, 1]


class SafeBelow(Safe):
    """No Safe: it was made by a class below it."""


class RobbedBelow(Robbed):
    """No Robbed."""


def bound_of(reach, guess, total, hand, factor, rival_book):
    """Return what a pair shows that a hand earns at most, or None if its row would be below 0."""
    row = [fraction(factor) * here - (at == hand) for at, here in enumerate(fractions(guess))]
    if row[hand] < 0:
        return None
    return fraction(factor) * total - product(fractions(reach), earned(rival_book, [number(here) for here in row]))


def is_safe_shown(stand, guess, book, rows):
    """Tell by the facts of point [13] whether a book and pairs show that a stand is safe."""
    reach, limits = stand
    total = product(fractions(guess), earned(book, reach))
    bounds = [bound_of(reach, guess, total, hand, *row) for hand, row in enumerate(rows)]
    return all(bound is not None and bound <= fraction(limit) for bound, limit in zip(bounds, limits, strict=True))


def is_robbed_shown(stand, guess, hand, book, rival_book):
    """Tell whether a book is shown to be best, and lets a hand earn more than its limit."""
    reach, limits = stand
    found = earned(book, reach)
    fewest = product(fractions(reach), earned(rival_book, guess))
    return product(fractions(guess), found) <= fewest and found[hand] > fraction(limits[hand])


class CheckNaiveTest(unittest.TestCase):
    def test_answers_are_right(self):
        for piece, reach, limits, guess in stands_with_guesses(281, 6, 6):
            told = naive_safe(piece, reach, limits, guess)
            self.assertIs(shows_naive(piece, reach, limits, guess, told), True)
            self.assertIs(shows_naive(piece, listed(reach), tuple(limits), listed(guess), told), True)

    def test_any_papers(self):
        draw = random.Random(282)
        found = []
        for piece, reach, limits, guess in stands_with_guesses(282, 3, 2):
            told = naive_safe(piece, reach, limits, guess)
            books = [any_book(draw, piece, "keeper"), told.book]
            for book in books:
                for by in (0, 1, -1, LITTLE, -LITTLE):
                    hand = draw.randrange(len(guess))
                    stand = reach, [*limits[:hand], number(fraction(limits[hand]) + by), *limits[hand + 1:]]
                    if told:
                        rows = [(number(fraction(factor) + draw.choice((0, 0, 1, LITTLE, -LITTLE))),
                                 draw.choice((rival_book, rival_book, any_book(draw, piece, "rival"))))
                                for factor, rival_book in told.rows]
                        is_right = is_safe_shown(stand, guess, book, rows)
                        self.assertIs(shows_naive(piece, *stand, guess, Safe(book, listed(rows))), is_right)
                        found.append((True, is_right))
                    rival_book = draw.choice((any_book(draw, piece, "rival"), told.rows[0][1] if told else told.rival_book))
                    is_right = is_robbed_shown(stand, guess, hand, book, rival_book)
                    self.assertIs(shows_naive(piece, *stand, guess, Robbed(hand, book, rival_book)), is_right)
                    found.append((False, is_right))
        for kind in (True, False):
            self.assertGreater(min(found.count((kind, True)), found.count((kind, False))), 10)

    def test_just_and_a_little_below(self):
        for piece, reach, _, guess, most in stands_just_safe(283, 5, 4):
            limits = [number(value) for value in most]
            told = naive_safe(piece, reach, limits, guess)
            self.assertIs(shows_naive(piece, reach, limits, guess, told), True)
            for hand, limit in enumerate(most):
                less = [*limits[:hand], number(limit - LITTLE), *limits[hand + 1:]]
                self.assertIs(shows_naive(piece, reach, less, guess, told), False)

    def test_number_times_guess(self):
        # The first hand is guessed with a half: its number is 2 at least.
        guess = [(1, 2), 1, 2]
        for factor, told in ((2, True), (3, True), (number(2 - LITTLE), False), ((3, 2), False), (0, False), (-2, False),
                             (True, False), ((4, 2), False), ("2", False), (2.0, False), (None, False), ([5, 2], True)):
            rows = [(factor, NONE), (2, NONE), (2, NONE)]
            self.assertIs(shows_naive(THREE, [1], [20, 20, 20], guess, Safe(STONE, rows)), told)
            rows = [(2, NONE), (2, NONE), (factor, NONE)]
            is_enough = told or factor in ((3, 2), number(2 - LITTLE))
            self.assertIs(shows_naive(THREE, [1], [20, 20, 20], guess, Safe(STONE, rows)), is_enough)

    def test_stands_outside(self):
        for limits in ([0, 0, -1], [-1, -1, 2]):
            self.assertFalse(holds(THREE, [1], limits))
            for factor in (1, 2, 10 ** 9):
                for book in (STONE, EVEN):
                    self.assertIs(shows_naive(THREE, [1], limits, ONES, Safe(book, [(factor, NONE)] * 3)), False)
        # What a best book lets a hand earn is told all the same.
        self.assertIs(shows_naive(THREE, [1], [0, 0, -1], ONES, Robbed(1, STONE, NONE)), True)
        self.assertIs(shows_naive(THREE, [1], [0, 0, -1], ONES, Robbed(2, STONE, NONE)), False)
        self.assertIs(shows_naive(THREE, [1], [0, 0, -1], ONES, Robbed(2, EVEN, NONE)), True)

    def test_hands(self):
        for hand, told in ((0, False), (1, True), (2, False), (-2, False), (3, False), (True, False), (1.0, False),
                           ("1", False), (None, False), ((1, 2), False), ((1, 1), False)):
            self.assertIs(shows_naive(THREE, [1], [0, 0, 0], ONES, Robbed(hand, STONE, NONE)), told)
        move = RivalMove([End([[1, 0]]), End([[0, 1]])])
        for hand, told in ((0, True), (1, False), (False, False), (True, False)):
            mine, theirs = Book(move, "keeper", ()), Book(move, "rival", [[[1, 0], [0, 1]]])
            self.assertIs(shows_naive(move, [1], [0, 1], [1, 1], Robbed(hand, mine, theirs)), told)

    def test_values_in_papers(self):
        right = [(1, NONE), [1, NONE], (1, NONE)]
        self.assertIs(shows_naive(THREE, [1], ONES, ONES, Safe(STONE, right)), True)
        for rows in (None, 1, [], right[:2], right + [(1, NONE)], [1, NONE], [(1,), *right[1:]], [(NONE, 1), *right[1:]],
                     [(1, NONE, 2), *right[1:]], [None, *right[1:]], [1, *right[1:]], [(1, None), *right[1:]],
                     [(1, STONE), *right[1:]], [(1, ()), *right[1:]], {0: (1, NONE)}, "rows",
                     [(1, first_book(BLUFF, "rival")), *right[1:]]):
            self.assertIs(shows_naive(THREE, [1], ONES, ONES, Safe(STONE, rows)), False)
        near = KeeperMove([*THREE.parts[:2], End([[1, -1, 1]])])
        for book in (None, 1, NONE, STONE.chances, str(STONE), even_book(near, "keeper"), first_book(BLUFF, "keeper")):
            self.assertIs(shows_naive(THREE, [1], ONES, ONES, Safe(book, right)), False)
            self.assertIs(shows_naive(THREE, [1], [0, 0, 0], ONES, Robbed(1, book, NONE)), False)
        for book in (None, 1, STONE, (), first_book(near, "rival"), first_book(BLUFF, "rival")):
            self.assertIs(shows_naive(THREE, [1], [0, 0, 0], ONES, Robbed(1, STONE, book)), False)

    def test_other_values(self):
        safe, robbed = Safe(STONE, [(1, NONE)] * 3), Robbed(1, STONE, NONE)
        for value in (None, True, "safe", safe.parts, Paper("safe", *safe.parts), Denial("safe", *safe.parts),
                      SafeBelow(*safe.parts), Safe, robbed, [safe], {}):
            self.assertIs(shows_naive(THREE, [1], ONES, ONES, value), False)
        for value in (None, False, "robbed", robbed.parts, Denial("robbed", *robbed.parts), Paper("robbed", *robbed.parts),
                      RobbedBelow(*robbed.parts), Robbed, safe, [robbed]):
            self.assertIs(shows_naive(THREE, [1], [0, 0, 0], ONES, value), False)

    def test_wrong_values(self):
        safe = Safe(STONE, [(1, NONE)] * 3)
        for value in NO_PIECES:
            check_raises(self, BadPiece("piece"), shows_naive, value, None, None, None, safe)
        for value in (None, [], [1], [1, -1], [1, True], [1, 1, 1], "11", [1, (2, 2)]):
            check_raises(self, BadNumber("reach"), shows_naive, DEEP, value, None, None, safe)
        for value in (None, 1, [], [1, 1], [True], "1", [(2, 4)]):
            check_raises(self, BadNumber("limits"), shows_naive, DEEP, [1, 1], value, None, None)
        for value in (None, 1, [], [1, 1], [1, 1, 0], [1, -1, 1], [1, True, 1], [1, 1, (2, 4)], "111"):
            check_raises(self, BadNumber("guess"), shows_naive, THREE, [1], [0, 0, -1], value, safe)
        self.assertIs(shows_naive(value=safe, guess=ONES, limits=ONES, reach=[1], piece=THREE), True)

    def test_what_is_passed_stays(self):
        rows = [[[3, 2], NONE], [1, NONE], [1, NONE]]
        reach, limits, guess = [1], [2, [5, 2], 1], [1, 1, 1]
        paper = Safe(STONE, rows)
        before = repr((reach, limits, guess, [row[0] for row in paper.rows]))
        self.assertIs(shows_naive(THREE, reach, limits, guess, paper), True)
        self.assertEqual(repr((reach, limits, guess, [row[0] for row in paper.rows])), before)
        rows[0][0] = None
        self.assertIs(shows_naive(THREE, reach, limits, guess, paper), True)


if __name__ == "__main__":
    unittest.main()
