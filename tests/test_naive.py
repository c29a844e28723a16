import random
import unittest
from fractions import Fraction

from examples import check_raises
from fractions_of import fraction, fractions, listed, number, product
from guesses import stands_just_safe, stands_with_guesses
from reckoning import earned
from shown import check_book, check_holds
from trees import BLUFF, DEEP, NO_PIECES, with_long_numbers

from planless.cones import Broken, holds
from planless.errors import BadNumber, BadPiece, Impossible
from planless.naive import Robbed, Safe, naive_safe
from planless.papers import Denial, Paper
from planless.pieces import End, KeeperHides, KeeperMove, RivalHides
from planless.worths import worth

THREE = KeeperMove((End(((0, 1, -1),)), End(((-1, 0, 1),)), End(((1, -1, 0),))))
LITTLE = Fraction(1, 10 ** 20)


class NaiveTest(unittest.TestCase):
    def check_told(self, piece, reach, limits, guess):
        """Check that an answer is right, by best limits and floors reckoned anew; return whether the stand is safe."""
        told = naive_safe(piece, reach, limits, guess)
        again = naive_safe(piece, tuple(reach), listed(limits), tuple(guess))
        self.assertEqual(told, again)
        theirs, mine = fractions(guess), fractions(reach)
        value = fraction(worth(piece, reach, guess).number)
        if told.__class__ is Robbed:
            self.assertEqual((told.word, told.parts, bool(told)), ("robbed", (told.hand, told.book, told.rival_book), False))
            check_book(self, told.book, piece, "keeper")
            check_book(self, told.rival_book, piece, "rival")
            found = earned(told.book, reach)
            self.assertGreater(found[told.hand], fraction(limits[told.hand]))
            self.assertEqual(product(theirs, found), value)
            self.assertEqual(product(mine, earned(told.rival_book, guess)), value)
            return False
        self.assertIs(told.__class__, Safe)
        self.assertEqual((told.word, told.parts, bool(told)), ("safe", (told.book, told.rows), True))
        check_book(self, told.book, piece, "keeper")
        total = product(theirs, earned(told.book, reach))
        self.assertEqual((len(told.rows), told.rows.__class__), (piece.rival_hands, tuple))
        for hand, (factor, rival_book) in enumerate(told.rows):
            check_book(self, rival_book, piece, "rival")
            row = [fraction(factor) * here - (at == hand) for at, here in enumerate(theirs)]
            self.assertGreaterEqual(min(row), 0)
            fewest = product(mine, earned(rival_book, [number(here) for here in row]))
            self.assertLessEqual(fraction(factor) * total - fewest, fraction(limits[hand]))
        return True

    def test_papers(self):
        self.assertTrue(issubclass(Safe, Paper) and not issubclass(Safe, Denial))
        self.assertTrue(issubclass(Robbed, Denial))
        told = Safe(rows=[[1, None]], book=2)
        self.assertEqual((told.word, told.parts, told.book, told.rows, bool(told)),
                         ("safe", (2, ((1, None),)), 2, ((1, None),), True))
        told = Robbed(1, [2], rival_book=3)
        self.assertEqual((told.word, told.parts, told.hand, told.book, told.rival_book, bool(told)),
                         ("robbed", (1, (2,), 3), 1, (2,), 3, False))
        self.assertEqual(Robbed(1, 2, 3), Robbed(rival_book=3, book=2, hand=1))

    def test_any_stands(self):
        found = [self.check_told(*stand) for stand in stands_with_guesses(271, 12, 8)]
        self.assertGreater(min(found.count(True), found.count(False)), 10)

    def test_just_safe(self):
        # Safe with the most that each hand earns by a best book as its limit, and with a little less robbed.
        draw = random.Random(272)
        tried = 0
        for piece, reach, _, guess, most in stands_just_safe(272):
            limits = [number(value) for value in most]
            self.assertTrue(self.check_told(piece, reach, limits, guess))
            hand = draw.randrange(len(most))
            limits[hand] = number(most[hand] - LITTLE)
            if holds(piece, reach, limits):
                tried += 1
                self.assertFalse(self.check_told(piece, reach, limits, guess))
                self.assertEqual(naive_safe(piece, reach, limits, guess).hand, hand)
        self.assertGreater(tried, 20)

    def test_exactly_where_it_is_safe(self):
        draw = random.Random(273)
        found = []
        for piece, reach, kept, guess, most in stands_just_safe(273):
            for limits in (kept, [number(value + draw.choice((0, 0, LITTLE, -LITTLE, 1, -1))) for value in most]):
                told = holds(piece, reach, limits)
                if not told:
                    with self.assertRaises(Impossible) as caught:
                        naive_safe(piece, reach, limits, guess)
                    self.assertEqual(caught.exception.paper, told)
                    continue
                is_safe = all(value <= fraction(limit) for value, limit in zip(most, limits))
                self.assertIs(self.check_told(piece, reach, limits, guess), is_safe)
                found.append(is_safe)
        self.assertGreater(min(found.count(True), found.count(False)), 20)

    def test_long_numbers(self):
        draw = random.Random(274)
        for piece, reach, _, guess in stands_with_guesses(274, 1, 0)[::3]:
            long = with_long_numbers(draw, piece)
            for book in (worth(long, reach, guess).book, worth(long, reach, [1] * len(guess)).book):
                self.check_told(long, reach, [number(value) for value in earned(book, reach)], guess)

    def test_one_hand_of_the_rival(self):
        # Whatever the guess, a best book holds the worth.
        for limit, guess in (((-1, 3), [1]), ((-1, 3), [(5, 2)]), ((-1, 3), [(1, 10 ** 20)]), (0, [10 ** 20])):
            self.assertTrue(self.check_told(BLUFF, [1], [limit], guess))
        self.assertTrue(self.check_told(End([[2]]), [3], [6], [7]))

    def test_numbers(self):
        for limits, guess, told in (
            ([0, 0, 0], [1, 1, 1], False), ([1, 1, 1], [1, 1, 1], True), ([1, 1, 0], [1, 1, 1], False),
            ([1, (99, 100), 1], [5, 5, 5], False), ([0, 0, 0], [2, 1, 1], False), ([-1, 0, 1], [2, 1, 1], True),
            ([0, 1, -1], [1, 1, 2], True), ([1, -1, 0], [1, 2, 1], True), ([1, 0, 1], [3, 2, 2], True),
        ):
            self.assertIs(self.check_told(THREE, [1], limits, guess), told)
        # All that is kept at reach 0 is safe.
        self.assertTrue(self.check_told(THREE, [0], [0, 0, 0], [1, 2, 3]))
        hidden = KeeperHides([2], RivalHides([1, 2], End([[0, 1, 2], [2, 1, 0]])))
        self.assertTrue(self.check_told(hidden, [1], [1, 2], [3, 1]))

    def test_stands_outside(self):
        for piece, reach, limits, guess in ((THREE, [1], [0, 0, -1], [1, 1, 1]), (BLUFF, [1], [(-2, 5)], [9])):
            with self.assertRaises(Impossible) as caught:
                naive_safe(piece, reach, limits, guess)
            self.assertIs(caught.exception.paper.__class__, Broken)
            self.assertFalse(check_holds(self, piece, reach, limits, caught.exception.paper))

    def test_wrong_values(self):
        for value in NO_PIECES:
            check_raises(self, BadPiece("piece"), naive_safe, value, None, None, None)
        for value in (None, [], [1], [1, -1], [1, True], [1, 1, 1], "11", [1, (2, 2)]):
            check_raises(self, BadNumber("reach"), naive_safe, DEEP, value, None, None)
        for value in (None, 1, [], [1, 1], [True], "1", [(2, 4)]):
            check_raises(self, BadNumber("limits"), naive_safe, DEEP, [1, 1], value, None)
        for value in (None, 1, [], [1, 1], [1, 1, 1, 1], [1, 1, 0], [0, 0, 0], [1, -1, 1], [1, 1, (-1, 2)], [1, True, 1],
                      [1, 1, (2, 4)], [1, 0.5, 1], "111", {0: 1, 1: 1, 2: 1}):
            # What is wrong with the guess is told ahead of a stand that cannot be held.
            check_raises(self, BadNumber("guess"), naive_safe, THREE, [1], [0, 0, -1], value)
        self.assertEqual(naive_safe(guess=[1, 1, 1], limits=[1, 1, 1], reach=[1], piece=THREE).word, "safe")

    def test_what_is_passed_stays(self):
        reach, limits, guess = [[1, 2]], [0, [1, 2], 0], [1, [3, 2], 1]
        before = repr((reach, limits, guess, str(THREE)))
        told = naive_safe(THREE, reach, limits, guess)
        self.assertEqual(repr((reach, limits, guess, str(THREE))), before)
        kept = repr(told.parts[0])
        reach[0][0] = guess[1][0] = 9
        self.assertEqual(repr(told.parts[0]), kept)


if __name__ == "__main__":
    unittest.main()
