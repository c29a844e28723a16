import random
import unittest
from fractions import Fraction

from examples import check_raises
from fractions_of import fraction, fractions, number
from reckoning import groups
from test_judges import some_games
from trees import BLUFF, DEEP, HIDE, NO_PIECES, any_book, great_places

from planless.answers import pay
from planless.books import Book, even_book, first_book
from planless.errors import BadBook, BadNumber, BadPiece, Misfit, NoPart
from planless.matches import Match, mean_paid
from planless.numbers import number_text
from planless.pieces import (
    Draw, End, KeeperHides, KeeperMove, KeeperSees, KeeperShows, RivalHides, RivalMove, RivalSees, RivalShows)
from planless.players import Player, played_book
from planless.worths import worth

NO_NUMBERS = (None, -1, True, False, "0", (0,), [0], (1, 1), (0, 2), (2, 4), 1.0, {}, 10 ** 30, (-1, 2))
WANTED = {Draw: "part", KeeperSees: "keeper", RivalSees: "rival", RivalMove: "choice", RivalHides: "choice",
          KeeperMove: "coin", KeeperHides: "coin", End: "nothing"}
WORDS = {Draw: "draw", KeeperSees: "keeper-sees", RivalSees: "rival-sees", RivalMove: "rival-move",
         RivalHides: "rival-hides", KeeperMove: "keeper-move", KeeperHides: "keeper-hides", KeeperShows: "keeper-shows",
         RivalShows: "rival-shows"}
HALF = KeeperSees([[(1, 2), (1, 2)]], KeeperMove([End([[0], [0]]), End([[0], [0]])]))


def short_games(seed, many=3):
    """Return games of all kinds."""
    return some_games(seed, many) + [BLUFF, HIDE, HALF]


class Referee:
    """What a match should tell, kept by the rules of point [15] beside it."""

    def __init__(self, game):
        self.place, self.hands, self.story, self.way = game, {"keeper": 0, "rival": 0}, [], ()
        self.show()

    def side(self):
        """Return the side whose place this is."""
        return "keeper" if isinstance(self.place, (KeeperMove, KeeperHides, KeeperSees, KeeperShows)) else "rival"

    def numbers(self):
        """Return the numbers that may be told, with their weights."""
        if isinstance(self.place, (KeeperHides, RivalHides)):
            return [1] * self.place.counts[self.hands[self.side()]]
        if isinstance(self.place, (KeeperSees, RivalSees)):
            return list(self.place.weights[self.hands[self.side()]])
        return list(self.place.weights) if isinstance(self.place, Draw) else [1] * len(self.place.parts)

    def go(self, at, line):
        """Go on by a number."""
        side, part = self.side(), at
        self.story.append(f"{WORDS[self.place.__class__]} {line}")
        if isinstance(self.place, (KeeperHides, RivalHides, KeeperSees, RivalSees)):
            sizes = self.place.counts if isinstance(self.place, (KeeperHides, RivalHides)) else \
                [len(row) for row in self.place.weights]
            self.hands[side], part = groups(sizes)[self.hands[side]][at], 0
        if isinstance(self.place, (KeeperShows, RivalShows)):
            self.hands[side] = self.place.lots[at].index(self.hands[side])
        self.place, self.way = self.place.parts[part], (*self.way, part)
        self.show()

    def show(self):
        """Go on by itself while hands are shown, and at the end."""
        if isinstance(self.place, (KeeperShows, RivalShows)):
            at = next(at for at, lot in enumerate(self.place.lots) if self.hands[self.side()] in lot)
            self.go(at, str(at))
        elif isinstance(self.place, End):
            self.story.append(f"end {number_text(self.paid())}")

    def paid(self):
        """Return what is paid, or None ahead of the end."""
        return self.place.table[self.hands["keeper"]][self.hands["rival"]] if isinstance(self.place, End) else None


class MatchTest(unittest.TestCase):
    def state(self, match):
        """Return all that a match tells."""
        return repr((match.worth, match.keeper_hand, match.rival_hand, match.wants, match.paid, match.story,
                     str(match.sitting())))

    def check_state(self, match, referee):
        """Check a match against what it should tell."""
        self.assertEqual((match.keeper_hand, match.rival_hand), (referee.hands["keeper"], referee.hands["rival"]))
        self.assertEqual(match.wants, WANTED[referee.place.__class__])
        self.assertEqual(repr(match.paid), repr(referee.paid()))
        self.assertEqual(match.story, tuple(referee.story))
        player = match.sitting()
        self.assertEqual((player.piece, player.way), (referee.place, referee.way))

    def tell(self, match, referee, draw):
        """Tell a match something that it wants."""
        if match.wants == "coin":
            row = fractions(match.sitting().chances()[match.keeper_hand])
            choice = draw.choice([at for at, chance in enumerate(row) if chance])
            low = sum(row[:choice])
            coin = number(low + row[choice] * draw.choice((0, Fraction(1, 2), 1 - Fraction(1, 10 ** 20))))
            self.assertIsNone(match.told(coin))
            referee.go(choice, f"{number_text(coin)} {choice}")
        else:
            at = draw.choice([at for at, weight in enumerate(referee.numbers()) if weight])
            self.assertIsNone(match.told(at))
            referee.go(at, str(at))

    def refuse(self, match, referee, draw):
        """Check that what cannot be told is refused, and changes nothing."""
        kept = self.state(match)
        if match.wants == "coin":
            for value in (None, -1, 1, 2, (-1, 2), (3, 2), (2, 4), True, False, "0", 0.5, (1, 1), [0], {}):
                check_raises(self, BadNumber("value"), match.told, value)
        else:
            weights = referee.numbers()
            for value in (*NO_NUMBERS, len(weights), len(weights) + 1):
                check_raises(self, BadNumber("value"), match.told, value)
            for at, weight in enumerate(weights):
                if weight == 0:
                    check_raises(self, Misfit("weight"), match.told, at)
        self.assertEqual(self.state(match), kept)

    def test_any_way(self):
        draw = random.Random(301)
        found = set()
        for game in short_games(301, 6):
            for _ in range(3):
                match, referee = Match(game), Referee(game)
                self.assertEqual(match.worth, worth(game, [1], [1]).number)
                while match.wants != "nothing":
                    self.check_state(match, referee)
                    self.refuse(match, referee, draw)
                    found.add(referee.place.__class__)
                    if not any(referee.numbers()):
                        break
                    self.tell(match, referee, draw)
                self.check_state(match, referee)
        self.assertEqual(found, set(WANTED) - {End})

    def test_the_player(self):
        # The one that sits plays as any player that begins with the worth; what is done to the one returned is lost.
        draw = random.Random(302)
        for game in short_games(302):
            match, referee = Match(game), Referee(game)
            while match.wants != "nothing" and any(referee.numbers()):
                player, other = match.sitting(), Player(game, (1,), (match.worth,))
                for at in referee.way:
                    other.goes(at)
                self.assertIs(player.__class__, Player)
                self.assertEqual((player, repr(player.chances())), (other, repr(other.chances())))
                self.assertEqual(match.sitting(), player)
                kept = self.state(match)
                player.goes(len(player.piece.parts) - 1)
                player.reach = player.limits = player.way = None
                self.assertEqual(self.state(match), kept)
                check_raises(self, NoPart(-1), match.sitting().goes, -1)
                self.tell(match, referee, draw)
            self.assertEqual(match.sitting().over, match.wants == "nothing")

    def test_coins(self):
        # Hand 1 of BLUFF takes choice 0 with two thirds: a coin just there goes to choice 1.
        for hand, coin, choice in ((1, 0, 0), (1, (1, 2), 0), (1, (2, 3), 1), (1, number(Fraction(2, 3) - Fraction(1, 10 ** 40)), 0),
                                   (1, (99, 100), 1), (0, 0, 1), (0, (999, 1000), 1), (1, [2, 3], 1)):
            match = Match(BLUFF)
            match.told(hand)
            match.told(coin)
            self.assertEqual(match.story[1], f"keeper-move {number_text(coin)} {choice}")
            self.assertEqual(match.wants, "choice" if choice else "nothing")
        for coin, hand in ((0, 0), ((1, 3), 0), ((1, 2), 1), ((9, 10), 1)):
            match = Match(HIDE)
            match.told(coin)
            self.assertEqual((match.story, match.keeper_hand), ((f"keeper-hides {number_text(coin)} {hand}",), hand))
        # A hand that nobody would be at takes choice 0, whatever the coin.
        never = KeeperHides([2], KeeperMove([End([[0], [5]]), End([[0], [4]])]))
        match = Match(never)
        match.told((99, 100))
        self.assertEqual((match.keeper_hand, match.worth), (0, 0))

    def test_moves_of_one_part(self):
        game = KeeperMove([RivalMove([KeeperHides([1], RivalHides([1], Draw([2], [End([[(-7, 2)]])])))])])
        match = Match(game)
        told = []
        for value in ((1, 2), 0, (2, 3), 0, 0):
            told.append(match.wants)
            check_raises(self, BadNumber("value"), match.told, 1)
            self.assertIsNone(match.told(value))
        self.assertEqual(told, ["coin", "choice", "coin", "choice", "part"])
        self.assertEqual((match.wants, match.paid, match.worth), ("nothing", (-7, 2), -7))
        self.assertEqual(match.story, ("keeper-move 1/2 0", "rival-move 0", "keeper-hides 2/3 0", "rival-hides 0", "draw 0",
                                       "end -7/2"))

    def test_shows(self):
        table = [[at * 10 + hand for hand in range(3)] for at in range(3)]
        inside = KeeperShows([[0, 2], [1]], [RivalShows([[0], [1, 2]], [End([[0], [20]]), End([[1, 2], [21, 22]])]),
                                             End([table[1]])])
        game = KeeperSees([[1, 1, 1]], RivalSees([[1, 1, 1]], inside))
        for keeper in range(3):
            for rival in range(3):
                match = Match(game)
                match.told(keeper)
                self.assertEqual((match.keeper_hand, match.rival_hand, match.wants), (keeper, 0, "rival"))
                match.told(rival)
                self.assertEqual((match.paid, match.wants), (table[keeper][rival], "nothing"))
                story = ("keeper-sees " + str(keeper), "rival-sees " + str(rival))
                if keeper == 1:
                    story += ("keeper-shows 1", f"end 1{rival}")
                    self.assertEqual((match.keeper_hand, match.rival_hand), (0, rival))
                else:
                    story += ("keeper-shows 0", f"rival-shows {min(rival, 1)}", f"end {table[keeper][rival]}")
                    self.assertEqual((match.keeper_hand, match.rival_hand), (keeper // 2, max(rival - 1, 0)))
                self.assertEqual(match.story, story)

    def test_games_that_are_over_at_once(self):
        for game, story, paid in ((End([[(3, 2)]]), ("end 3/2",), (3, 2)),
                                  (KeeperShows([[0]], [RivalShows([[0]], [End([[4]])])]),
                                   ("keeper-shows 0", "rival-shows 0", "end 4"), 4)):
            match = Match(game)
            self.assertEqual((match.wants, match.paid, match.story, match.worth), ("nothing", paid, story, paid))
            self.assertTrue(match.sitting().over)
            for value in (0, None, -1, (1, 2), "0", True, 10 ** 9):
                kept = self.state(match)
                check_raises(self, Misfit("over"), match.told, value)
                self.assertEqual(self.state(match), kept)

    def test_weights_of_nought(self):
        piece = Draw([0, 3], [End([[1]]), KeeperSees([[0, 0, 1]], RivalSees([[(1, 9), 0]], End([[1, 2]] * 3)))])
        match = Match(piece)
        check_raises(self, Misfit("weight"), match.told, 0)
        check_raises(self, BadNumber("value"), match.told, 2)
        match.told(1)
        for value in (0, 1):
            check_raises(self, Misfit("weight"), match.told, value)
        match.told(value=2)
        check_raises(self, Misfit("weight"), match.told, 1)
        match.told(0)
        self.assertEqual((match.story, match.paid), (("draw 1", "keeper-sees 2", "rival-sees 0", "end 1"), 1))

    def mean_by_matches(self, game, book):
        """Return what is paid in the mean over all that may be told, each pay weighted, by matches alone."""
        total, left = Fraction(0), [((), Fraction(1))]
        while left:
            values, weight = left.pop()
            match = Match(game)
            for value in values:
                match.told(value)
            if match.wants == "nothing":
                total += weight * fraction(match.paid)
                continue
            place = match.sitting().piece
            if match.wants == "coin":
                row = fractions(match.sitting().chances()[match.keeper_hand])
                steps = [(number(sum(row[:at])), chance) for at, chance in enumerate(row)]
            elif match.wants == "choice":
                steps = list(enumerate(fractions(book.row(match.sitting().way, match.rival_hand))))
            else:
                weights = place.weights if match.wants == "part" else \
                    place.weights[match.keeper_hand if match.wants == "keeper" else match.rival_hand]
                steps = list(enumerate(fractions(weights)))
            left.extend(((*values, value), weight * chance) for value, chance in steps if chance)
        return total

    def test_means_of_matches(self):
        draw = random.Random(303)
        for game in short_games(303, 2):
            if game.many > 12:
                continue
            number_there = worth(game, [1], [1]).number
            for book in (any_book(draw, game, "rival"), worth(game, [1], [1]).rival_book):
                told = mean_paid(game, book)
                self.assertEqual(fraction(told), self.mean_by_matches(game, book))
                self.assertLessEqual(fraction(told), fraction(number_there))

    def test_means_and_played_books(self):
        draw = random.Random(304)
        for game in short_games(304) + [piece for piece in great_places(40, 304) if piece.keeper_hands * piece.rival_hands == 1]:
            value = worth(game, [1], [1])
            mine = played_book(game, (1,), (value.number,))
            for book in (any_book(draw, game, "rival"), even_book(game, "rival"), first_book(game, "rival")):
                told = mean_paid(game, book)
                self.assertEqual(told, pay(game, mine, book, (1,), (1,)))
                self.assertLessEqual(fraction(told), fraction(value.number))
            self.assertEqual(mean_paid(game, value.rival_book), value.number)

    def test_wrong_values(self):
        for value in (*NO_PIECES, DEEP, End([[1, 2]]), End([[1], [2]]), KeeperHides([1, 1], End([[1], [1]]))):
            check_raises(self, BadPiece("game"), Match, value)
            check_raises(self, BadPiece("game"), mean_paid, value, None)
        for value in (None, 1, even_book(BLUFF, "keeper"), even_book(HIDE, "rival"), (((0, 1),),), BLUFF,
                      Book(End([[1]]), "rival", ())):
            check_raises(self, BadBook("rival_book"), mean_paid, BLUFF, value)
        self.assertEqual(mean_paid(rival_book=even_book(BLUFF, "rival"), game=BLUFF), (-1, 3))
        self.assertEqual(Match(game=BLUFF).wants, "keeper")

    def test_what_is_passed_stays(self):
        before, coin = str(BLUFF), [1, 2]
        match = Match(BLUFF)
        match.told(1)
        match.told(coin)
        kept = self.state(match)
        coin[0] = 9
        self.assertEqual((self.state(match), str(BLUFF)), (kept, before))
        other = Match(BLUFF)
        other.told(0)
        self.assertEqual((self.state(match), other.keeper_hand), (kept, 0))


if __name__ == "__main__":
    unittest.main()
