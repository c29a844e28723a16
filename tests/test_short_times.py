import random
import time
import unittest

from shown import check_holds, check_worth
from trees import any_number, great_places

from planless.answers import best_limits
from planless.books import even_book
from planless.check_judges import shows_judged
from planless.check_naive import shows_naive
from planless.cones import holds
from planless.judges import judged
from planless.matches import Match, mean_paid
from planless.naive import naive_safe
from planless.pieces import Draw, End, KeeperHides, KeeperMove, KeeperSees, RivalHides, RivalMove, RivalSees
from planless.players import Player, played_book
from planless.prices import all_prices, lost
from planless.splits import fits_split, split
from planless.worths import worth

SHORT = 5


def turns(draw, keeper, rival, levels, by_keeper=True):
    """Return moves of the keeper and the rival in turns, with an end beside each."""
    end = End([[any_number(draw) for _ in range(rival)] for _ in range(keeper)])
    if levels == 0:
        return end
    return (KeeperMove if by_keeper else RivalMove)([turns(draw, keeper, rival, levels - 1, not by_keeper), end])


def bush(draw, keeper, rival, levels, by_keeper=True):
    """Return moves of the keeper and the rival in turns, all of two parts."""
    if levels == 0:
        return End([[any_number(draw) for _ in range(rival)] for _ in range(keeper)])
    parts = [bush(draw, keeper, rival, levels - 1, not by_keeper) for _ in range(2)]
    return (KeeperMove if by_keeper else RivalMove)(parts)


def dealt(draw, keeper, rival, part):
    """Return the piece in which each side is dealt a hand that it alone sees."""
    return KeeperSees([[any_number(draw, 1) for _ in range(keeper)]],
                      RivalSees([[any_number(draw, 1) for _ in range(rival)]], part))


def tall_pieces(draw):
    """Return pieces in which many choices hang on one another."""
    return [
        KeeperHides([3], RivalHides([3], turns(draw, 3, 3, 3))),
        dealt(draw, 3, 3, turns(draw, 3, 3, 3, False)),
        dealt(draw, 3, 3, bush(draw, 3, 3, 2)),
        KeeperHides([3], RivalHides([3], bush(draw, 3, 3, 2, False))),
        dealt(draw, 2, 2, bush(draw, 2, 2, 3)),
        KeeperHides([2], RivalHides([2], turns(draw, 2, 2, 5))),
        dealt(draw, 2, 1, turns(draw, 2, 1, 7)),
        dealt(draw, 1, 2, turns(draw, 1, 2, 7, False)),
        KeeperHides([3], RivalMove([RivalHides([1], End([[any_number(draw)] for _ in range(3)])) for _ in range(6)])),
        bush(draw, 1, 2, 3),
        Draw([any_number(draw, 1) for _ in range(3)], [bush(draw, 1, 1, 2) for _ in range(3)]),
    ]


class ShortTimesTest(unittest.TestCase):
    def in_short(self, function, *values):
        """Return what the function returns, which must come in a short time."""
        start = time.monotonic()
        told = function(*values)
        self.assertLess(time.monotonic() - start, SHORT, function)
        return told

    def pieces(self):
        draw = random.Random(71)
        found = tall_pieces(draw) + great_places(25, 71)
        self.assertLessEqual(max(piece.many for piece in found), 24)
        return draw, found

    def test_worths_and_stands(self):
        draw, pieces = self.pieces()
        for piece in pieces:
            reach = [any_number(draw, 1) for _ in range(piece.keeper_hands)]
            rival_reach = [any_number(draw, 1) for _ in range(piece.rival_hands)]
            told = self.in_short(worth, piece, reach, rival_reach)
            check_worth(self, piece, reach, rival_reach, told)
            limits = best_limits(piece, told.book, reach)
            self.assertTrue(check_holds(self, piece, reach, limits, self.in_short(holds, piece, reach, limits)))
            limits = [any_number(draw) for _ in limits]
            check_holds(self, piece, reach, limits, self.in_short(holds, piece, reach, limits))

    def test_splits_and_players(self):
        draw, pieces = self.pieces()
        for piece in pieces:
            reach = [any_number(draw, 1) for _ in range(piece.keeper_hands)]
            limits = best_limits(piece, worth(piece, reach, [1] * piece.rival_hands).book, reach)
            told = self.in_short(split, piece, reach, limits)
            self.assertIs(self.in_short(fits_split, piece, reach, limits, told), True)
            self.in_short(played_book, piece, reach, limits)
            player = self.in_short(Player, piece, reach, limits)
            while not player.over:
                self.in_short(player.chances)
                self.in_short(player.goes, draw.randrange(len(player.piece.parts)))

    def test_guesses(self):
        draw, pieces = self.pieces()
        for piece in pieces:
            reach = [any_number(draw, 1) for _ in range(piece.keeper_hands)]
            guess = [any_number(draw, 1) for _ in range(piece.rival_hands)]
            for seen in (guess, [1] * piece.rival_hands):
                limits = best_limits(piece, worth(piece, reach, seen).book, reach)
                told = self.in_short(naive_safe, piece, reach, limits, guess)
                self.assertIs(self.in_short(shows_naive, piece, reach, limits, guess, told), True)

    def test_judges_and_prices(self):
        draw, pieces = self.pieces()
        for piece in pieces:
            reach = [any_number(draw, 1) for _ in range(piece.keeper_hands)]
            theirs = [any_number(draw, 1) for _ in range(piece.rival_hands)]
            told = worth(piece, reach, theirs)
            self.in_short(all_prices, piece, told.book, reach)
            self.assertEqual(self.in_short(lost, piece, told.book, told.rival_book, reach, theirs), 0)
            if piece.keeper_hands == piece.rival_hands == 1:
                shown = self.in_short(judged, piece, told.book)
                self.assertIs(self.in_short(shows_judged, piece, told.book, shown), True)

    def test_matches(self):
        draw, pieces = self.pieces()
        for piece in pieces:
            if piece.keeper_hands == piece.rival_hands == 1:
                match = self.in_short(Match, piece)
                self.in_short(mean_paid, piece, even_book(piece, "rival"))
                while match.wants != "nothing":
                    value = 0
                    if match.wants not in ("coin", "choice"):
                        place, hand = match.sitting().piece, {"keeper": match.keeper_hand, "rival": match.rival_hand}
                        weights = place.weights if match.wants == "part" else place.weights[hand[match.wants]]
                        value = draw.choice([at for at, weight in enumerate(weights) if weight])
                    self.in_short(match.told, value)


if __name__ == "__main__":
    unittest.main()
