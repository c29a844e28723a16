import random
import unittest

from examples import check_raises
from fractions_of import fractions, listed, number
from reckoning import choices_of
from shown import check_holds
from trees import BLUFF, DEEP, NO_PIECES, any_book, any_reach, great_places, places_of_all_kinds

from planless.answers import best_limits
from planless.cones import Broken, holds
from planless.errors import BadNumber, BadPiece, Impossible, NoPart
from planless.pieces import Draw, End, KeeperHides, KeeperMove, RivalMove, ways
from planless.players import Player, taken_up
from planless.splits import fits_split, split
from planless.worths import worth

GUESS = KeeperHides([2], RivalMove([End([[1], [-1]]), End([[-1], [1]])]))
NO_PARTS = (-1, 2, None, "0", True, False, 0.0, (0,), [0], (1, 2), 10 ** 30)


def some_stands(seed, many=6):
    """Return the draw, and pieces with stands that are held: just so, or with limits raised."""
    draw = random.Random(seed)
    found = []
    for at, piece in enumerate(places_of_all_kinds(many, seed) + great_places(4, seed)):
        reach, theirs = any_reach(draw, piece.keeper_hands), any_reach(draw, piece.rival_hands)
        book = worth(piece, reach, theirs).book if at % 2 else any_book(draw, piece, "keeper")
        limits = best_limits(piece, book, reach)
        if at % 3 == 0:
            limits = [number(value + draw.randint(0, 2)) for value in fractions(limits)]
        found.append((piece, reach, limits))
    return draw, found


class PlayerTest(unittest.TestCase):
    def state(self, player):
        """Return all that a player keeps."""
        return repr((player.reach, player.limits, player.way, player.over, str(player.piece)))

    def check_chances(self, player):
        """Check the chances against a split; return them."""
        told = player.chances()
        self.assertEqual(repr(player.chances()), repr(told))
        counts = choices_of(player.piece, "keeper")
        if counts is None:
            self.assertEqual(told, ())
            return told
        self.assertNotIn("[", repr(told))
        self.assertEqual([len(row) for row in told], counts)
        stands = split(player.piece, player.reach, player.limits)
        for hand, (row, total) in enumerate(zip(told, fractions(player.reach))):
            chances = fractions(row)
            self.assertEqual(sum(chances), 1)
            self.assertGreaterEqual(min(chances), 0)
            if total == 0:
                self.assertEqual(row, (1,) + (0,) * (counts[hand] - 1))
            elif isinstance(player.piece, KeeperMove):
                self.assertEqual([chance * total for chance in chances],
                                 fractions([stand[0][hand] for stand in stands]))
            else:
                start = sum(counts[:hand])
                self.assertEqual([chance * total for chance in chances],
                                 fractions(stands[0][0][start:start + counts[hand]]))
        return told

    def go(self, player, at):
        """Let a player go to a part, and check where it comes."""
        piece, reach, limits, way = player.piece, player.reach, player.limits, player.way
        stands = split(piece, reach, limits)
        self.assertIs(fits_split(piece, reach, limits, stands), True)
        self.assertIsNone(player.goes(at))
        self.assertEqual((player.piece, player.way), (piece.parts[at], (*way, at)))
        self.assertEqual(repr((player.reach, player.limits)), repr(stands[at]))
        self.assertIs(player.over, isinstance(player.piece, End))
        self.assertTrue(check_holds(self, player.piece, player.reach, player.limits,
                                    holds(player.piece, player.reach, player.limits)))

    def test_beginning(self):
        player = Player(DEEP, [1, [1, 2]], [[7, 2]])
        self.assertEqual((player.piece, player.reach, player.limits, player.way, player.over),
                         (DEEP, (1, (1, 2)), ((7, 2),), (), False))
        end = Player(limits=(3,), reach=((1, 2),), piece=End([[2]]))
        self.assertEqual((end.over, end.chances(), end.way), (True, (), ()))

    def test_any_way(self):
        draw, stands = some_stands(111)
        for piece, reach, limits in stands:
            player = Player(piece, reach, limits)
            self.assertEqual(repr((player.reach, player.limits)), repr((tuple(reach), tuple(limits))))
            while not player.over:
                # Asked once or twice at each place, or not at all.
                for _ in range(draw.randint(0, 2)):
                    self.check_chances(player)
                self.go(player, draw.randrange(len(player.piece.parts)))
            self.assertEqual(player.chances(), ())

    def test_every_way(self):
        for piece, reach, limits in some_stands(112, 3)[1]:
            for way in ways(piece):
                player, other = Player(piece, reach, limits), Player(piece, reach, limits)
                for at in way:
                    player.chances()
                    player.goes(at)
                    other.goes(at)
                self.assertEqual(player, other)
                self.assertEqual(player.way, way)
                self.assertTrue(holds(player.piece, player.reach, player.limits))
                self.assertEqual(repr(player.chances()), repr(other.chances()))
                # One who begins here with this stand makes the same splits.
                again = Player(player.piece, player.reach, player.limits)
                self.assertEqual(repr(again.chances()), repr(player.chances()))
                self.assertEqual(again == player, way == ())

    def test_no_part(self):
        draw, stands = some_stands(113, 2)
        for piece, reach, limits in stands:
            player = Player(piece, reach, limits)
            while True:
                kept = self.state(player)
                many = len(player.piece.parts)
                for value in (*NO_PARTS, many, many + 1, -many):
                    if isinstance(value, bool) or not isinstance(value, int) or not 0 <= value < many:
                        check_raises(self, NoPart(value), player.goes, value)
                        self.assertEqual(self.state(player), kept)
                if player.over:
                    check_raises(self, NoPart(0), player.goes, number=0)
                    break
                player.goes(number=draw.randrange(many))

    def test_what_is_lost_on_the_way(self):
        # Of two parts alike the player goes to each with the stand that it has there.
        draw = Draw([1, 1], [GUESS, GUESS])
        player = Player(draw, [1], [0])
        player.goes(1)
        self.assertEqual((player.reach, player.limits), ((1,), (0,)))
        self.assertEqual(player.chances(), (((1, 2), (1, 2)),))
        player = Player(draw, [1], [3])
        player.goes(0)
        self.assertTrue(holds(GUESS, player.reach, player.limits))

    def test_hands_of_reach_nought(self):
        piece = KeeperHides([2, 3], RivalMove([End([[1], [2], [3], [4], [5]]), End([[5], [4], [3], [2], [1]])]))
        for reach, limits in (([0, 0], [0]), ([0, 1], [3]), ([1, 0], [4]), ([0, 0], [5])):
            player = Player(piece, reach, limits)
            told = self.check_chances(player)
            for hand, number_there in enumerate(reach):
                if number_there == 0:
                    self.assertEqual(told[hand], (1, 0, 0)[:2 + hand])
        move = KeeperMove([piece, piece])
        player = Player(move, [0, 0], [0])
        self.assertEqual(player.chances(), ((1, 0), (1, 0)))
        self.go(player, 1)
        self.assertEqual(player.chances(), ((1, 0), (1, 0, 0)))

    def test_equal(self):
        player = Player(GUESS, [1], [0])
        self.assertEqual(player, Player(KeeperHides((2,), GUESS.parts[0]), (1,), (0,)))
        self.assertNotEqual(player, Player(GUESS, [1], [1]))
        self.assertNotEqual(player, Player(GUESS, [(1, 2)], [0]))
        self.assertNotEqual(player, Player(KeeperHides([2], RivalMove([End([[1], [-1]])] * 2)), [1], [0]))
        for other in (None, 1, str(player), GUESS, ([1], [0]), ()):
            self.assertIs(player == other, False)
        double = RivalMove([GUESS, GUESS])
        one, other = Player(double, [1], [0]), Player(double, [1], [0])
        one.goes(0)
        other.goes(1)
        self.assertEqual((one.piece, one.reach, one.limits), (other.piece, other.reach, other.limits))
        self.assertNotEqual(one, other)
        self.assertEqual(one, taken_up(double, "0 / 1 / 0"))

    def test_wrong_values(self):
        for value in NO_PIECES:
            check_raises(self, BadPiece("piece"), Player, value, None, None)
        for value in (None, [], [1], [1, -1], [1, True], [1, 1, 1], "11", [1, (2, 2)]):
            check_raises(self, BadNumber("reach"), Player, DEEP, value, None)
        for value in (None, 1, [], [1, 1], [True], "1", [(2, 4)], [-99, -99]):
            check_raises(self, BadNumber("limits"), Player, DEEP, [1, 1], value)

    def test_impossible(self):
        for piece, limits in ((BLUFF, [(-2, 5)]), (GUESS, [(-1, 10 ** 30)]), (End([[2]]), [1])):
            told = holds(piece, [1], limits)
            self.assertIs(told.__class__, Broken)
            with self.assertRaises(Impossible) as caught:
                Player(piece, [1], limits)
            self.assertEqual(caught.exception.paper, told)

    def test_what_is_passed_stays(self):
        reach, limits = [[1, 2]], [[1, 3]]
        player = Player(GUESS, reach, limits)
        kept = self.state(player)
        reach[0][0] = 5
        limits.append(1)
        self.assertEqual(self.state(player), kept)
        before = str(GUESS)
        stand = player.reach, player.limits
        player.goes(0)
        player.goes(1)
        self.assertEqual((str(GUESS), stand), (before, (((1, 2),), ((1, 3),))))
        self.assertEqual(listed(player.way), [0, 1])


if __name__ == "__main__":
    unittest.main()
