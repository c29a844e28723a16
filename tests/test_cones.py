import random
import unittest

from examples import check_raises
from fractions_of import fractions, listed, number
from shown import check_holds
from trees import (
    BLUFF, DEEP, NO_PIECES, any_book, any_numbers, any_reach, great_places, places_of_all_kinds, with_long_numbers)

from planless.answers import best_limits
from planless.books import even_book
from planless.cones import Broken, Held, holds
from planless.errors import BadNumber, BadPiece
from planless.papers import Denial, Paper
from planless.pieces import Draw, End, KeeperHides, KeeperMove, KeeperSees, RivalHides, RivalMove, RivalSees
from planless.worths import worth

THREE = KeeperMove([End([[0, 1, -1]]), End([[-1, 0, 1]]), End([[1, -1, 0]])])
LITTLE, LESS = (1, 10 ** 40), (-1, 10 ** 40)


def moved(limits, hand, by):
    """Return the limits with one moved by a number."""
    values = fractions(limits)
    values[hand] += fractions([by])[0]
    return [number(value) for value in values]


class ConesTest(unittest.TestCase):
    def is_held(self, piece, reach, limits):
        """Check the answer, and that it comes again; return whether the stand is held."""
        told = holds(piece, reach, limits)
        again = holds(piece, tuple(listed(reach)), listed(limits))
        self.assertEqual(told, again)
        self.assertEqual(repr(told.parts[:-1]), repr(again.parts[:-1]))
        return check_holds(self, piece, reach, limits, told)

    def test_papers(self):
        self.assertTrue(issubclass(Held, Paper) and not issubclass(Held, Denial))
        self.assertTrue(issubclass(Broken, Denial))
        told = Held([1, [2]])
        self.assertEqual((told.word, told.parts, told.book, bool(told)), ("held", ((1, (2,)),), (1, (2,)), True))
        told = Broken(book=None, rival_reach=[[1, 2]])
        self.assertEqual((told.word, told.parts, told.rival_reach, told.book, bool(told)),
                         ("broken", (((1, 2),), None), ((1, 2),), None, False))
        self.assertEqual(Held(book=1), Held(1))
        self.assertNotEqual(Held(1), Paper("held", 1))
        self.assertNotEqual(Broken(1, 2), Denial("broken", 1, 2))

    def test_ends(self):
        end = End([[1, -2], [3, (1, 2)]])
        for reach, limits, told in (
            ([1, 0], [1, -2], True), ([1, 0], [1, (-21, 10)], False), ([1, 0], [(9, 10), 9], False),
            ([1, 2], [7, -1], True), ([1, 2], [7, (-101, 100)], False), ([0, 0], [0, 0], True),
            ([0, 0], [0, (-1, 100)], False), ([0, (1, 3)], [1, (1, 6)], True), ([0, (1, 3)], [1, (1, 7)], False),
        ):
            self.assertIs(self.is_held(end, reach, limits), told)

    def test_just_and_a_little_below(self):
        draw = random.Random(51)
        for piece in places_of_all_kinds(9, 51) + great_places(10, 51):
            reach = any_reach(draw, piece.keeper_hands)
            theirs = any_numbers(draw, piece.rival_hands, 1)
            # No stand has a lesser sum of limits than the worth: so no limit may be lower.
            limits = best_limits(piece, worth(piece, reach, theirs).book, reach)
            self.assertTrue(self.is_held(piece, reach, limits))
            for hand, weight in enumerate(theirs):
                self.assertTrue(self.is_held(piece, reach, moved(limits, hand, 1)))
                if weight:
                    self.assertFalse(self.is_held(piece, reach, moved(limits, hand, LESS)))
                    self.assertFalse(self.is_held(piece, reach, moved(limits, hand, -7)))

    def test_any_limits(self):
        draw = random.Random(52)
        told = []
        for piece in places_of_all_kinds(9, 52):
            for _ in range(3):
                reach = any_reach(draw, piece.keeper_hands)
                # About as great as what is earned by some book.
                limits = best_limits(piece, any_book(draw, piece, "keeper"), reach)
                hand = draw.randrange(len(limits))
                told.append(self.is_held(piece, reach, moved(limits, hand, -draw.randint(0, 4))))
                told.append(self.is_held(piece, reach, any_numbers(draw, piece.rival_hands)))
        self.assertEqual(set(told), {True, False})

    def test_long_numbers(self):
        draw = random.Random(53)
        for piece in places_of_all_kinds(3, 53):
            long = with_long_numbers(draw, piece)
            reach = [(10 ** 39 + 1, 3 * 10 ** 38)] * piece.keeper_hands
            limits = best_limits(long, worth(long, reach, [1] * piece.rival_hands).book, reach)
            self.assertTrue(self.is_held(long, reach, limits))
            self.assertFalse(self.is_held(long, reach, moved(limits, 0, (-1, 10 ** 60 - 1))))

    def test_reach_of_nought(self):
        draw = random.Random(54)
        for piece in places_of_all_kinds(3, 54):
            reach = [0] * piece.keeper_hands
            self.assertTrue(self.is_held(piece, reach, [0] * piece.rival_hands))
            self.assertTrue(self.is_held(piece, reach, [draw.choice((0, LITTLE, 5)) for _ in range(piece.rival_hands)]))
            for hand in range(piece.rival_hands):
                self.assertFalse(self.is_held(piece, reach, moved([0] * piece.rival_hands, hand, LESS)))
                self.assertFalse(self.is_held(piece, reach, moved([5] * piece.rival_hands, hand, -6)))

    def test_sums_of_stands(self):
        # With two stands a cone has their sum, and each of them times a number.
        draw = random.Random(55)
        for piece in places_of_all_kinds(3, 55):
            stands = []
            for _ in range(2):
                reach = any_reach(draw, piece.keeper_hands)
                book = worth(piece, reach, any_reach(draw, piece.rival_hands)).book
                stands.append((reach, best_limits(piece, book, reach)))
            (reach, limits), (other, other_limits) = stands
            self.assertTrue(self.is_held(piece, [number(a + b) for a, b in zip(fractions(reach), fractions(other))],
                                         [number(a + b) for a, b in zip(fractions(limits), fractions(other_limits))]))
            self.assertTrue(self.is_held(piece, [number(a * 3 / 7) for a in fractions(reach)],
                                         [number(a * 3 / 7) for a in fractions(limits)]))

    def test_weights_of_nought(self):
        bad = KeeperMove([End([[9]]), End([[8]])])
        self.assertTrue(self.is_held(Draw([0, 0], [bad, bad]), [1], [0]))
        self.assertFalse(self.is_held(Draw([0, 0], [bad, bad]), [1], [-1]))
        self.assertTrue(self.is_held(Draw([0, 1], [bad, End([[1]])]), [1], [1]))
        self.assertFalse(self.is_held(Draw([(1, 2), 1], [bad, End([[1]])]), [1], [(49, 10)]))
        seen = KeeperSees([[0, 1]], RivalHides([2], End([[9, 9], [1, 2]])))
        self.assertTrue(self.is_held(seen, [1], [2]))
        self.assertFalse(self.is_held(seen, [1], [(199, 100)]))
        unseen = RivalSees([[0, 1], [0]], KeeperHides([2], RivalMove([End([[9, 3, 9], [9, 2, 9]])])))
        self.assertTrue(self.is_held(unseen, [1], [2, 0]))
        self.assertFalse(self.is_held(unseen, [1], [2, (-1, 9)]))
        self.assertFalse(self.is_held(unseen, [1], [(19, 10), 0]))

    def test_wrong_values(self):
        for value in NO_PIECES:
            check_raises(self, BadPiece("piece"), holds, value, None, None)
        for value in (None, 1, "0", [], [1], [1, 1, 1], [1, -1], [1, (-1, 2)], [1, True], [1, (2, 4)], [1, 0.5], {}):
            check_raises(self, BadNumber("reach"), holds, DEEP, value, None)
            check_raises(self, BadNumber("reach"), holds, piece=DEEP, limits=[0], reach=value)
        for value in (None, 1, "0", [], [1, 1], [True], [(2, 4)], [(3, 1)], [0.5], [None], {0: 1}, (1, 2)):
            check_raises(self, BadNumber("limits"), holds, DEEP, [1, 1], value)
        self.assertTrue(holds(limits=[(3, 2)], reach=[0, 0], piece=DEEP))
        self.assertFalse(holds(DEEP, [1, 1], [-1]))

    def test_what_is_passed_stays(self):
        reach, limits = [[1, 2]], [[-1, 2], 0, [1, 2]]
        told = holds(THREE, reach, limits)
        self.assertEqual((reach, limits), ([[1, 2]], [[-1, 2], 0, [1, 2]]))
        kept = repr(told.book.chances)
        reach[0][0] = 3
        limits[1] = 9
        self.assertEqual(repr(told.book.chances), kept)
        self.assertEqual(told.book.chances, (((0, 1, 0),),))
        told = holds(BLUFF, [1], [-1])
        self.assertEqual(told.rival_reach, (1,))
        self.assertEqual(even_book(BLUFF, "rival").piece, told.book.piece)


if __name__ == "__main__":
    unittest.main()
