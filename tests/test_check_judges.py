import random
import unittest
from fractions import Fraction

from examples import check_raises
from fractions_of import fraction, fractions, listed, number
from reckoning import all_earned, earned, paid, rows_of
from test_judges import asked_row, do_fit, some_games
from trees import BLUFF, DEEP, NO_PIECES, any_book

from planless.books import Book, even_book, first_book
from planless.check_judges import shows_judged
from planless.errors import BadBook, BadPiece
from planless.judges import Beaten, Unbeaten, judged
from planless.papers import Denial, Paper
from planless.pieces import Draw, End, RivalMove, ways
from planless.worths import worth

GOOD, BOLD = Book(BLUFF, "keeper", [[[0, 1], [(2, 3), (1, 3)]]]), Book(BLUFF, "keeper", [[[0, 1], [0, 1]]])
THIRD, CALLS = Book(BLUFF, "rival", [[[(1, 3), (2, 3)]]]), Book(BLUFF, "rival", [[[0, 1]]])
ROWS = [[(-1, 3)], [(-1, 3)], [(1, 3)], [(-2, 3)], [(-2, 3)], [(-2, 3)]]
LITTLE = Fraction(1, 10 ** 30)


class UnbeatenBelow(Unbeaten):
    """No Unbeaten: it was made by a class below it."""


class BeatenBelow(Beaten):
    """No Beaten."""


def best_rows(book):
    """Return the best limits of all places of a game, as numbers."""
    found = all_earned(book, [Fraction(1)])
    return [[number(value) for value in found[way]] for way in ways(book.piece)]


def is_unbeaten_shown(game, book, rows, rival_book):
    """Tell by the table of point [10] whether rows and a rival's book show that a book is unbeaten."""
    return do_fit(game, book, [1], rows) and earned(rival_book, [1])[0] >= fraction(rows[0][0])


def is_beaten_shown(game, book, rival_book, other):
    """Tell whether two books show that a book is beaten."""
    return paid(game, rows_of(book), rows_of(rival_book), [1], [1]) > earned(other, [1])[0]


class CheckJudgesTest(unittest.TestCase):
    def test_answers_are_right(self):
        draw = random.Random(221)
        for game in some_games(221):
            for book in (worth(game, [1], [1]).book, any_book(draw, game, "keeper"), first_book(game, "keeper")):
                told = judged(game, book)
                self.assertIs(shows_judged(game, book, told), True)
                again = judged(game, Book(game, "keeper", listed(book.chances)))
                self.assertEqual(again, told)
                # The other answer is never right.
                value = worth(game, [1], [1])
                other = Beaten(value.rival_book, value.book) if told else Unbeaten(best_rows(book), value.rival_book)
                self.assertIs(shows_judged(game, book, other), False)

    def test_any_unbeaten(self):
        draw = random.Random(222)
        found = []
        for game in some_games(222):
            value = worth(game, [1], [1])
            for book, theirs in ((value.book, value.rival_book), (any_book(draw, game, "keeper"), value.rival_book),
                                 (value.book, any_book(draw, game, "rival"))):
                rows = best_rows(book)
                for by in (0, 1, -1, LITTLE, -LITTLE):
                    bent = listed(rows)
                    at = draw.randrange(len(bent)) if draw.random() < .5 else 0
                    hand = draw.randrange(len(bent[at]))
                    bent[at][hand] = number(fraction(rows[at][hand]) + by)
                    is_right = is_unbeaten_shown(game, book, bent, theirs)
                    self.assertIs(shows_judged(game, book, Unbeaten(bent, theirs)), is_right)
                    found.append(is_right)
        self.assertGreater(min(found.count(True), found.count(False)), 50)

    def test_any_beaten(self):
        draw = random.Random(223)
        found = []
        for game in some_games(223):
            for book in (worth(game, [1], [1]).book, any_book(draw, game, "keeper"), even_book(game, "keeper")):
                for _ in range(4):
                    theirs, other = any_book(draw, game, "rival"), any_book(draw, game, "keeper")
                    is_right = is_beaten_shown(game, book, theirs, other)
                    self.assertIs(shows_judged(game, book, Beaten(theirs, other)), is_right)
                    found.append(is_right)
        self.assertGreater(min(found.count(True), found.count(False)), 20)

    def test_first_rows_and_floors(self):
        # Rows that fit with the first one raised: the floor has to reach it.
        end = End([[2]])
        mine, theirs = Book(end, "keeper", ()), Book(end, "rival", ())
        for row, told in ((2, True), (number(2 + LITTLE), False), (number(2 - LITTLE), False), (3, False), (1, False)):
            self.assertIs(shows_judged(end, mine, Unbeaten([[row]], theirs)), told)
        # Rows further down may be raised, so far as those above them are not asked for more.
        game = Draw([0, 1], [RivalMove([End([[5]]), End([[3]])]), end])
        book, rival_book = Book(game, "keeper", ()), Book(game, "rival", [[[0, 1]]])
        for rows, told in (([[2], [5], [5], [3], [2]], True), ([[2], [9], [7], [9], [2]], True),
                           ([[2], [5], [(11, 2)], [3], [2]], False), ([[2], [5], [5], [3], [3]], False),
                           ([[2], [3], [5], [3], [2]], False), ([[3], [5], [5], [3], [2]], False)):
            self.assertIs(shows_judged(game, book, Unbeaten(rows, rival_book)), told)
        self.assertIs(shows_judged(BLUFF, GOOD, Unbeaten(ROWS, THIRD)), True)
        self.assertIs(shows_judged(BLUFF, GOOD, Unbeaten(ROWS, CALLS)), False)
        self.assertIs(shows_judged(BLUFF, BOLD, Unbeaten(ROWS, THIRD)), False)

    def test_rows_one_below_what_is_asked(self):
        draw = random.Random(224)
        for game in some_games(224, 3):
            value = worth(game, [1], [1])
            rows = best_rows(value.book)
            self.assertIs(shows_judged(game, value.book, Unbeaten(rows, value.rival_book)), True)
            at = draw.randrange(len(rows))
            hand = draw.randrange(len(rows[at]))
            asked = asked_row(game, value.book, [1], rows, ways(game)[at])
            rows[at][hand] = number(asked[hand] - 1)
            self.assertIs(shows_judged(game, value.book, Unbeaten(rows, value.rival_book)), False)

    def test_values_in_papers(self):
        for rows in (None, 1, "rows", [], ROWS[:5], ROWS + [[0]], [ROWS], [*ROWS[:5], []], [*ROWS[:5], [True]],
                     [*ROWS[:5], [(2, 4)]], [*ROWS[:5], [0.5]], [*ROWS[:5], ["0"]], {}, [[False], *ROWS[1:]]):
            self.assertIs(shows_judged(BLUFF, GOOD, Unbeaten(rows, THIRD)), False)
        near = RivalMove([End([[2]])])
        for book in (None, 1, GOOD, THIRD.chances, str(THIRD), Book(near, "rival", [[[1]]]), even_book(DEEP, "rival")):
            self.assertIs(shows_judged(BLUFF, GOOD, Unbeaten(ROWS, book)), False)
            self.assertIs(shows_judged(BLUFF, BOLD, Beaten(book, GOOD)), False)
        for book in (None, True, THIRD, GOOD.chances, first_book(near, "keeper"), even_book(DEEP, "keeper"), [GOOD]):
            self.assertIs(shows_judged(BLUFF, BOLD, Beaten(CALLS, book)), False)
        self.assertIs(shows_judged(BLUFF, BOLD, Beaten(CALLS, GOOD)), True)
        # Where nobody chooses all books of a side have the same chances.
        end = End([[2]])
        mine, theirs = Book(end, "keeper", ()), Book(end, "rival", ())
        self.assertIs(shows_judged(end, mine, Unbeaten([[2]], theirs)), True)
        self.assertIs(shows_judged(end, mine, Unbeaten([[2]], mine)), False)
        for value, told in ((1, True), (True, False), ((1, 1), False), ("1", False)):
            one = End([[1]])
            self.assertIs(shows_judged(one, Book(one, "keeper", ()), Unbeaten([[value]], Book(one, "rival", ()))), told)

    def test_other_values(self):
        good, bad = Unbeaten(ROWS, THIRD), Beaten(CALLS, GOOD)
        self.assertIs(shows_judged(BLUFF, GOOD, good), True)
        self.assertIs(shows_judged(BLUFF, BOLD, bad), True)
        for value in (None, True, 0, "unbeaten", good.parts, Paper("unbeaten", ROWS, THIRD), UnbeatenBelow(ROWS, THIRD),
                      Denial("unbeaten", ROWS, THIRD), Unbeaten, bad, [good], {}):
            self.assertIs(shows_judged(BLUFF, GOOD, value), False)
        for value in (None, False, "beaten", bad.parts, Denial("beaten", CALLS, GOOD), BeatenBelow(CALLS, GOOD),
                      Paper("beaten", CALLS, GOOD), Beaten, good, [bad], Beaten(GOOD, CALLS)):
            self.assertIs(shows_judged(BLUFF, BOLD, value), False)

    def test_wrong_values(self):
        told = Unbeaten(ROWS, THIRD)
        for value in (*NO_PIECES, DEEP, End([[1, 2]]), End([[1], [2]])):
            check_raises(self, BadPiece("game"), shows_judged, value, None, told)
        for value in (None, 1, str(GOOD), GOOD.chances, THIRD, even_book(DEEP, "keeper"), BLUFF):
            check_raises(self, BadBook("book"), shows_judged, BLUFF, value, told)
        self.assertIs(shows_judged(value=told, book=GOOD, game=BLUFF), True)

    def test_what_is_passed_stays(self):
        rows = listed(ROWS)
        paper = Unbeaten(rows, THIRD)
        before = repr((paper.parts[0], THIRD.chances, GOOD.chances, str(BLUFF)))
        self.assertIs(shows_judged(BLUFF, GOOD, paper), True)
        self.assertEqual(repr((paper.parts[0], THIRD.chances, GOOD.chances, str(BLUFF))), before)
        rows[0][0] = 7
        self.assertIs(shows_judged(BLUFF, GOOD, paper), True)
        self.assertEqual(fractions(paper.limits[0]), [Fraction(-1, 3)])


if __name__ == "__main__":
    unittest.main()
