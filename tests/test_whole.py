import random
import unittest

from cones_of import great_listed_pieces, has_few_hands, listed_pieces
from fractions_of import fraction, fractions, number
from frames_of import any_frame, games_of
from reckoning import earned
from shown import check_worth
from test_judges import some_games
from trees import BLUFF, HIDE, any_book, any_reach

from planless.answers import best_limits, floors, pay
from planless.books import Book
from planless.check_compared import shows_compared, shows_never_worse
from planless.check_cones import shows_holds, shows_worth
from planless.check_judges import shows_judged
from planless.check_naive import shows_naive
from planless.compared import Alike, compared, never_worse
from planless.cones import holds
from planless.errors import TooMany
from planless.frames import cut, exchanged, filled
from planless.judges import fits, judged
from planless.lists import rays_for, walls_for
from planless.matches import Match, mean_paid
from planless.mirrors import mirrored, mirrored_book
from planless.naive import naive_safe
from planless.numbers import minus, ratio, times
from planless.pieces import End, KeeperSees, RivalSees, ways
from planless.players import played_book
from planless.prices import lost
from planless.splits import fits_split, split
from planless.turnings import joined, opened, scaled, trimmed
from planless.worths import worth


class WholeTest(unittest.TestCase):
    def games(self, seed, many=3):
        """Return games of all kinds."""
        return [*some_games(seed, many), BLUFF, HIDE]

    def test_one_worth(self):
        # The worth by two books, the played book, the judge, lists, pieces compared, guesses and matches are one.
        draw = random.Random(311)
        for game in self.games(311):
            told = worth(game, [1], [1])
            value = told.number
            check_worth(self, game, [1], [1], told)
            self.assertIs(shows_worth(game, [1], [1], told), True)
            book = played_book(game, (1,), (value,))
            self.assertEqual(best_limits(game, book, (1,)), (value,))
            for one in (book, told.book):
                shown = judged(game, one)
                self.assertEqual((shown.word, shown.limits[0]), ("unbeaten", (value,)))
                self.assertIs(shows_judged(game, one, shown), True)
                self.assertIs(fits(game, one, (1,), shown.limits), True)
                self.assertEqual(floors(game, shown.rival_book, (1,)), (value,))
                self.assertEqual(lost(game, one, shown.rival_book, (1,), (1,)), 0)
                self.assertEqual(pay(game, one, shown.rival_book, (1,), (1,)), value)
            self.assertEqual(Match(game).worth, value)
            self.assertEqual(mean_paid(game, told.rival_book), value)
            self.assertEqual(mean_paid(game, told.rival_book), pay(game, book, told.rival_book, (1,), (1,)))
            self.assertTrue(holds(game, (1,), (value,)))
            self.assertFalse(holds(game, (1,), (minus(value, (1, 10 ** 9)),)))
            guess = [draw.randint(1, 9)]
            safe = naive_safe(game, (1,), (value,), guess)
            self.assertEqual((safe.word, shows_naive(game, (1,), (value,), guess, safe)), ("safe", True))
            self.assertEqual(worth(mirrored(game), [1], [1]).number, minus(0, value))

    def test_lists_of_games(self):
        for game in self.games(312):
            if not has_few_hands(game):
                continue
            value = worth(game, [1], [1]).number
            (_, first), (reach, limit) = rays_for(game)
            self.assertEqual((first, ratio(limit, reach)), (1, value))
            (costs, theirs), = [wall for wall in walls_for(game) if wall != (1, 0)]
            self.assertEqual(ratio(-costs, theirs), value)
            if game.levels <= 8:
                end = End([[value]])
                self.assertEqual((compared(game, end), never_worse(game, end)), (Alike(), never_worse(end, game)))
                other = End([[minus(value, (1, 10 ** 9))]])
                told = compared(game, other)
                self.assertEqual((told.word, shows_compared(game, other, told)), ("unlike", True))
                self.assertIs(shows_never_worse(game, other, never_worse(game, other)), True)

    def test_prices_and_judges(self):
        # What a beaten book pays more than the worth is what the rival would lose by the book that bounds it, and more.
        draw = random.Random(313)
        for game in self.games(313):
            book, rival_book = any_book(draw, game, "keeper"), any_book(draw, game, "rival")
            told = judged(game, book)
            self.assertIs(shows_judged(game, book, told), True)
            limit, = best_limits(game, book, (1,))
            self.assertEqual(minus(limit, lost(game, book, rival_book, (1,), (1,))),
                             pay(game, book, rival_book, (1,), (1,)))
            self.assertEqual(bool(told), limit == worth(game, [1], [1]).number)
            if not told:
                self.assertEqual(pay(game, book, told.rival_book, (1,), (1,)),
                                 minus(limit, lost(game, book, told.rival_book, (1,), (1,))))

    def test_pieces_in_games(self):
        # A part of a game gives way to one that is alike: opened, trimmed, or scaled by 1.
        draw = random.Random(314)
        tried = 0
        for game in self.games(314, 2):
            value = worth(game, [1], [1]).number
            for way in draw.sample(ways(game), min(4, game.many)):
                frame, part = cut(game, way)
                self.assertEqual(filled(frame, part), game)
                turned = [scaled(part, 1), mirrored(mirrored(part))]
                try:
                    turned.append(opened(part))
                except TooMany:
                    pass
                if has_few_hands(part):
                    turned.append(trimmed(part))
                for other in turned:
                    try:
                        whole = exchanged(game, way, other)
                    except TooMany:
                        continue
                    tried += 1
                    self.assertEqual(worth(whole, [1], [1]).number, value)
        self.assertGreater(tried, 100)

    def test_stands(self):
        draw = random.Random(315)
        for piece in listed_pieces(2, 315, (2, 3)) + great_listed_pieces(4, 315):
            mine = piece.keeper_hands
            reach, theirs = any_reach(draw, mine), any_reach(draw, piece.rival_hands)
            told = worth(piece, reach, theirs)
            limits = best_limits(piece, told.book, reach)
            held = holds(piece, reach, limits)
            self.assertIs(shows_holds(piece, reach, limits, held), True)
            self.assertIs(fits_split(piece, reach, limits, split(piece, reach, limits)), True)
            # The same stand is held in the game that deals these reaches, as its worth.
            if piece.levels <= 7:
                game = KeeperSees([reach], RivalSees([theirs], piece))
                self.assertEqual(worth(game, [1], [1]).number, told.number)
                self.assertEqual(worth(joined(game, game), [1], [1]).number, times(2, told.number))
            # Of the rays of the piece sums make this stand, or one with lesser limits; so no wall bars it.
            stand = [*fractions(reach), *fractions(limits)]
            for wall in walls_for(piece):
                self.assertGreaterEqual(sum(here * there for here, there in zip(wall, stand)), 0)
            book = played_book(piece, reach, limits)
            self.assertTrue(all(here <= there for here, there in zip(earned(book, reach), fractions(limits))))

    def test_guesses_and_players(self):
        # With a guess that is what a frame deals, a naive player that is safe holds what a player holds.
        draw = random.Random(316)
        for piece in listed_pieces(2, 316, (2, 3)):
            reach = any_reach(draw, piece.keeper_hands)
            guess = [draw.randint(1, 5) for _ in range(piece.rival_hands)]
            told = worth(piece, reach, guess)
            limits = best_limits(piece, told.book, reach)
            shown = naive_safe(piece, reach, limits, guess)
            self.assertIs(shows_naive(piece, reach, limits, guess, shown), True)
            if shown:
                self.assertEqual(sum(here * fraction(there) for here, there in zip(guess, limits)), fraction(told.number))
            else:
                game = KeeperSees([reach], RivalSees([guess], piece))
                self.assertEqual(best_limits(game, Book(game, "keeper", shown.book.chances), (1,)), (told.number,))

    def test_mirrored(self):
        draw = random.Random(317)
        for piece in listed_pieces(2, 317, (2, 3)):
            turned = mirrored(piece)
            rival_book = any_book(draw, piece, "rival")
            theirs = any_reach(draw, piece.rival_hands)
            self.assertEqual(tuple(minus(0, value) for value in best_limits(turned, mirrored_book(rival_book), theirs)),
                             floors(piece, rival_book, theirs))
            other = scaled(piece, 2)
            # What is never worse for the keeper is never better when the sides are exchanged.
            self.assertIs(bool(never_worse(piece, other)), bool(never_worse(mirrored(other), turned)))
            self.assertIs(bool(compared(piece, other)), bool(compared(turned, mirrored(other))))

    def test_frames(self):
        draw = random.Random(318)
        for piece in listed_pieces(2, 318, (2,)):
            frame = any_frame(draw, piece.keeper_hands, piece.rival_hands)
            games = games_of(frame, piece, joined(scaled(piece, (1, 2)), scaled(piece, (1, 2))))
            if games is not None:
                self.assertEqual(worth(games[0], [1], [1]).number, worth(games[1], [1], [1]).number)
                self.assertEqual(number(fraction(Match(games[0]).worth)), worth(games[0], [1], [1]).number)


if __name__ == "__main__":
    unittest.main()
