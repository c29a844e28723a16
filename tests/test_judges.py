import random
import unittest
from fractions import Fraction

from examples import check_raises
from fractions_of import fraction, fractions, listed, number
from reckoning import all_earned, above, at_end, comes, earned, paid, rows_of
from trees import BLUFF, DEEP, NO_PIECES, any_book, any_reach, great_places, places_of_all_kinds, with_long_numbers

from planless.books import Book, even_book, first_book
from planless.errors import BadBook, BadNumber, BadPiece
from planless.judges import Beaten, Unbeaten, fits, judged
from planless.papers import Denial, Paper
from planless.pieces import (
    Draw, End, KeeperHides, KeeperMove, KeeperSees, KeeperShows, RivalHides, RivalMove, RivalSees, RivalShows, place_at,
    ways)
from planless.worths import worth

GOOD, BOLD = Book(BLUFF, "keeper", [[[0, 1], [(2, 3), (1, 3)]]]), Book(BLUFF, "keeper", [[[0, 1], [0, 1]]])
TWO = End([[3, 5], [4, 2]])


def as_game(piece):
    """Return a game in which all hands of a piece are dealt alike."""
    return KeeperSees([[1] * piece.keeper_hands], RivalSees([[1] * piece.rival_hands], piece))


def some_games(seed, many=6):
    """Return games of all kinds."""
    return [as_game(piece) for piece in places_of_all_kinds(many, seed) + great_places(4, seed)]


def all_reaches(book, reach, place=None, way=(), rows=None):
    """Return for each way the reach with which the keeper comes there."""
    place, rows = place or book.piece, rows or rows_of(book)
    found = {way: reach}
    for at, (part, below) in enumerate(zip(place.parts, comes(place, "keeper", reach, rows.get(way)))):
        found.update(all_reaches(book, below, part, (*way, at), rows))
    return found


def asked_row(piece, book, reach, rows, way):
    """Return what the table of point [10] asks of a row, in fractions."""
    place = place_at(piece, way)
    limits = {way: fractions(row) for way, row in zip(ways(piece), rows)}
    if isinstance(place, End):
        return at_end(place, "keeper", all_reaches(book, fractions(reach))[way])
    return above(place, "keeper", [limits[(*way, at)] for at in range(len(place.parts))])


def do_fit(piece, book, reach, rows):
    """Tell by the table of point [10] whether rows fit."""
    return all(asked <= value for way, row in zip(ways(piece), rows)
               for asked, value in zip(asked_row(piece, book, reach, rows, way), fractions(row)))


class JudgesTest(unittest.TestCase):
    def check_judged(self, game, book):
        """Check that an answer is right, and that it comes again; return whether the book is unbeaten."""
        told = judged(game, book)
        again = judged(game, Book(game, "keeper", listed(book.chances)))
        self.assertEqual(told, again)
        self.assertEqual(repr(told.parts[0]) if told else "", repr(again.parts[0]) if again else "")
        limit = earned(book, [1])[0]
        value = fraction(worth(game, [1], [1]).number)
        self.assertGreaterEqual(limit, value)
        if told.__class__ is Unbeaten:
            self.assertEqual((told.word, told.parts, bool(told)), ("unbeaten", (told.limits, told.rival_book), True))
            self.assertEqual(limit, value)
            found = all_earned(book, [Fraction(1)])
            self.assertEqual([fractions(row) for row in told.limits], [found[way] for way in ways(game)])
            self.assertTrue(all(isinstance(row, tuple) for row in (told.limits, *told.limits)))
            self.assertEqual((told.rival_book.piece, told.rival_book.side), (game, "rival"))
            self.assertEqual(earned(told.rival_book, [1]), [value])
            self.assertIs(fits(game, book, (1,), told.limits), True)
            return True
        self.assertIs(told.__class__, Beaten)
        self.assertEqual((told.word, told.parts, bool(told)), ("beaten", (told.rival_book, told.book), False))
        self.assertGreater(limit, value)
        self.assertEqual((told.rival_book.piece, told.rival_book.side), (game, "rival"))
        self.assertEqual((told.book.piece, told.book.side), (game, "keeper"))
        self.assertGreater(paid(game, rows_of(book), rows_of(told.rival_book), [1], [1]), earned(told.book, [1])[0])
        return False

    def test_papers(self):
        self.assertTrue(issubclass(Unbeaten, Paper) and not issubclass(Unbeaten, Denial))
        self.assertTrue(issubclass(Beaten, Denial))
        told = Unbeaten(rival_book=None, limits=[[1], [[1, 2]]])
        self.assertEqual((told.word, told.parts, told.limits, told.rival_book, bool(told)),
                         ("unbeaten", (((1,), ((1, 2),)), None), ((1,), ((1, 2),)), None, True))
        told = Beaten([1], 2)
        self.assertEqual((told.word, told.parts, told.rival_book, told.book, bool(told)),
                         ("beaten", ((1,), 2), (1,), 2, False))
        self.assertEqual(Beaten(book=2, rival_book=1), Beaten(1, 2))
        self.assertNotEqual(Unbeaten(1, 2), Paper("unbeaten", 1, 2))

    def test_judged(self):
        draw = random.Random(141)
        found = []
        for game in some_games(141):
            self.assertTrue(self.check_judged(game, worth(game, [1], [1]).book))
            for book in (any_book(draw, game, "keeper"), first_book(game, "keeper"), even_book(game, "keeper")):
                found.append(self.check_judged(game, book))
        self.assertEqual(set(found), {True, False})

    def test_a_little_beaten(self):
        little = Fraction(1, 10 ** 30)
        for by in (little, -little):
            first, second = number(Fraction(2, 3) + by), number(Fraction(1, 3) - by)
            self.assertFalse(self.check_judged(BLUFF, Book(BLUFF, "keeper", [[[0, 1], [first, second]]])))
        self.assertTrue(self.check_judged(BLUFF, GOOD))
        self.assertFalse(self.check_judged(BLUFF, Book(BLUFF, "keeper", [[[number(little), number(1 - little)], [1, 0]]])))

    def test_long_numbers(self):
        draw = random.Random(142)
        for game in some_games(142, 1)[:10]:
            long = with_long_numbers(draw, game)
            self.assertTrue(self.check_judged(long, worth(long, [1], [1]).book))
            self.check_judged(long, first_book(long, "keeper"))

    def test_where_nobody_chooses(self):
        end = End([[(3, 2)]])
        told = judged(end, Book(end, "keeper", ()))
        self.assertEqual(told, Unbeaten([[(3, 2)]], Book(end, "rival", ())))
        self.assertTrue(self.check_judged(Draw([0, 2], [end, end]), Book(Draw([0, 2], [end, end]), "keeper", [])))

    def test_fitting_rows(self):
        draw = random.Random(143)
        found = []
        for piece in places_of_all_kinds(9, 143) + great_places(4, 143):
            book, reach = any_book(draw, piece, "keeper"), any_reach(draw, piece.keeper_hands)
            best = all_earned(book, fractions(reach))
            rows = [[number(value) for value in best[way]] for way in ways(piece)]
            self.assertIs(fits(piece, book, reach, rows), True)
            self.assertIs(fits(piece, book, tuple(reach), tuple(tuple(row) for row in rows)), True)
            self.assertIs(fits(piece, book, listed(reach), listed(rows)), True)
            for _ in range(4):
                # One number is raised or lowered: at its place it fits only if it is not too low, above if not too high.
                bent = [list(row) for row in rows]
                row = draw.choice(bent)
                at = draw.randrange(len(row))
                row[at] = number(fraction(row[at]) + draw.choice((1, -1)) * Fraction(1, draw.choice((1, 9, 10 ** 20))))
                is_right = do_fit(piece, book, reach, bent)
                self.assertIs(fits(piece, book, reach, bent), is_right)
                found.append(is_right)
        self.assertEqual(set(found), {True, False})

    def test_rows_that_are_raised_from_the_ends_up(self):
        draw = random.Random(144)
        for piece in places_of_all_kinds(6, 144):
            book, reach = any_book(draw, piece, "keeper"), any_reach(draw, piece.keeper_hands)
            rows = [[0] * place_at(piece, way).rival_hands for way in ways(piece)]
            for at, way in reversed(list(enumerate(ways(piece)))):
                asked = asked_row(piece, book, reach, rows, way)
                rows[at] = [number(value + draw.choice((0, 1))) for value in asked]
            self.assertTrue(fits(piece, book, reach, rows))
            # At one place a little less.
            at = draw.randrange(len(rows))
            asked = asked_row(piece, book, reach, rows, ways(piece)[at])
            hand = draw.randrange(len(asked))
            rows[at][hand] = number(asked[hand] - Fraction(1, 10 ** 30))
            self.assertFalse(fits(piece, book, reach, rows))

    def test_each_row_of_the_table(self):
        # For each kind: a reach, the rows of the place and its parts, and what its own row may at least be.
        for piece, reach, below in (
            (KeeperMove([TWO, TWO]), [1, 1], [[3, 5], [4, 2]]),
            (RivalMove([TWO, TWO]), [1, 1], [[7, 8], [9, 7]]),
            (Draw([(1, 2), 2], [TWO, TWO]), [1, 1], [[7, 8], [9, 7]]),
            (KeeperHides([2], TWO), [1], [[4, 5]]),
            (RivalHides([2], TWO), [1, 1], [[7, 8]]),
            (KeeperSees([[1, (1, 2)]], TWO), [1], [[5, 6]]),
            (RivalSees([[1, (1, 2)]], TWO), [1, 1], [[7, 8]]),
            (KeeperShows([[0, 2], [1]], [TWO, End([[1, 1]])]), [1, 1, 1], [[7, 7], [1, 2]]),
            (RivalShows([[0, 2], [1]], [TWO, End([[1], [6]])]), [1, 1], [[7, 8], [7]]),
        ):
            with self.subTest(str(piece)):
                book = first_book(piece, "keeper")
                if isinstance(piece, KeeperMove):
                    book = Book(piece, "keeper", [[[1, 0], [0, 1]]])
                rows = [[0] * piece.rival_hands, *below]
                rows[0] = [number(value) for value in asked_row(piece, book, reach, rows, ())]
                self.assertTrue(do_fit(piece, book, reach, rows))
                self.assertIs(fits(piece, book, reach, rows), True)
                for hand in range(piece.rival_hands):
                    less = [list(row) for row in rows]
                    less[0][hand] = number(fraction(less[0][hand]) - Fraction(1, 10 ** 30))
                    self.assertIs(fits(piece, book, reach, less), False)

    def test_values_of_other_forms(self):
        rows = [[(-1, 3)], [(-1, 3)], [(1, 3)], [(-2, 3)], [(-2, 3)], [(-2, 3)]]
        self.assertIs(fits(BLUFF, GOOD, [1], rows), True)
        for value in (None, 1, True, "rows", {}, [], rows[:5], rows + [[0]], [rows], [*rows[:5], []], [*rows[:5], [0, 0]],
                      [*rows[:5], 0], [*rows[:5], None], [*rows[:5], [None]], [*rows[:5], [True]], [*rows[:5], ["0"]],
                      [*rows[:5], [0.5]], [*rows[:5], [(2, 4)]], [*rows[:5], (-2, 3)], [*rows[:5], {0: 9}], rows[::-1],
                      [[9], *rows[1:5], [-1]]):
            self.assertIs(fits(BLUFF, GOOD, [1], value), False)
        zero = End([[0]])
        for value, told in (([[0]], True), ([[False]], False), ([[(0, 1)]], False), ([[5]], True), ([[-1]], False)):
            self.assertIs(fits(zero, Book(zero, "keeper", ()), [1], value), told)

    def test_wrong_values(self):
        many = End([[1, 2]])
        for value in (*NO_PIECES, DEEP, many, mirrored_end(many), KeeperHides([1, 1], End([[1], [1]]))):
            check_raises(self, BadPiece("game"), judged, value, None)
        for value in NO_PIECES:
            check_raises(self, BadPiece("piece"), fits, value, None, None, None)
        other = Book(RivalMove([End([[1]])]), "keeper", ())
        for value in (None, 1, str(GOOD), GOOD.chances, even_book(BLUFF, "rival"), even_book(DEEP, "keeper"), other, BLUFF):
            check_raises(self, BadBook("book"), judged, BLUFF, value)
            check_raises(self, BadBook("book"), fits, BLUFF, value, None, None)
        for value in (None, 1, [], [1, 1], [-1], [True], [(2, 4)], "1", [0.5]):
            check_raises(self, BadNumber("reach"), fits, BLUFF, GOOD, value, None)
        self.assertIs(fits(rows=None, reach=[1], book=GOOD, piece=BLUFF), False)
        self.assertEqual(judged(book=GOOD, game=BLUFF), judged(BLUFF, GOOD))

    def test_what_is_passed_stays(self):
        rows, reach = [[[-1, 3]], [0], [[1, 3]], [[-2, 3]], [[-2, 3]], [0]], [[1, 2]]
        before = repr((rows, reach, BOLD.chances, str(BLUFF)))
        fits(BLUFF, BOLD, reach, rows)
        told = judged(BLUFF, BOLD)
        self.assertEqual(repr((rows, reach, BOLD.chances, str(BLUFF))), before)
        self.assertEqual(told, judged(BLUFF, BOLD))


def mirrored_end(end):
    """Return an end of as many hands, exchanged."""
    return End([list(column) for column in zip(*end.table)])


if __name__ == "__main__":
    unittest.main()
