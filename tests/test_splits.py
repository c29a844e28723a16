import random
import unittest
from fractions import Fraction

from examples import check_raises
from fractions_of import fraction, fractions, listed, number
from reckoning import above, comes, groups
from shown import check_holds
from trees import DEEP, NO_PIECES, any_book, any_numbers, any_reach, great_places, places_of_all_kinds

from planless.answers import best_limits
from planless.cones import Broken, holds
from planless.errors import BadNumber, BadPiece, Impossible
from planless.pieces import (
    Draw, End, KeeperHides, KeeperMove, KeeperSees, KeeperShows, RivalHides, RivalMove, RivalSees, RivalShows)
from planless.splits import fits_split, split

THROW = KeeperMove((End(((0, 1, -1),)), End(((-1, 0, 1),)), End(((1, -1, 0),))))
TWO = End([[3, 5], [4, 2]])


def fits_table(piece, reach, limits, value):
    """Tell by the table of point [9] whether stands fit."""
    reaches, below = [fractions(stand[0]) for stand in value], [fractions(stand[1]) for stand in value]
    if isinstance(piece, KeeperMove):
        are_right = [sum(column) for column in zip(*reaches)] == fractions(reach)
    elif isinstance(piece, KeeperHides):
        are_right = [sum(reaches[0][at] for at in group) for group in groups(piece.counts)] == fractions(reach)
    else:
        are_right = reaches == comes(piece, "keeper", fractions(reach), None)
    return are_right and all(asked <= limit for asked, limit in zip(above(piece, "keeper", below), fractions(limits)))


def bent(stands, draw):
    """Return stands of which one number is another one."""
    rows = [[list(row) for row in stand] for stand in stands]
    row = draw.choice(draw.choice(rows))
    at = draw.randrange(len(row))
    by = draw.choice((1, -1)) * Fraction(1, draw.choice((1, 7, 10 ** 20)))
    row[at] = number(fraction(row[at]) + by)
    return rows


class SplitsTest(unittest.TestCase):
    def check_split(self, piece, reach, limits):
        """Check that a split fits, that each stand is held, and that it comes again; return it."""
        told = split(piece, reach, limits)
        self.assertEqual(repr(split(piece, tuple(listed(reach)), listed(limits))), repr(told))
        self.assertNotIn("[", repr(told))
        self.assertIsInstance(told, tuple)
        self.assertEqual(len(told), len(piece.parts))
        for stand, part in zip(told, piece.parts):
            below, limits_below = stand
            self.assertEqual((len(below), len(limits_below)), (part.keeper_hands, part.rival_hands))
            self.assertTrue(check_holds(self, part, below, limits_below, holds(part, below, limits_below)))
        if piece.parts:
            self.assertTrue(fits_table(piece, reach, limits, told))
        self.assertIs(fits_split(piece, reach, limits, told), True)
        self.assertIs(fits_split(piece, reach, limits, listed(told)), True)
        return told

    def stands(self, seed, many=9):
        """Return the draw, and pieces with stands just at what can be held, or raised."""
        draw = random.Random(seed)
        found = []
        for piece in places_of_all_kinds(many, seed) + great_places(5, seed):
            reach = any_reach(draw, piece.keeper_hands)
            limits = best_limits(piece, any_book(draw, piece, "keeper"), reach)
            if draw.random() < .4:
                limits = [number(a + b) for a, b in zip(fractions(limits),
                                                       fractions(any_numbers(draw, len(limits), 0)))]
            found.append((piece, reach, limits))
        return draw, found

    def test_splits(self):
        for piece, reach, limits in self.stands(101)[1]:
            self.check_split(piece, reach, limits)

    def test_bent_splits(self):
        draw, stands = self.stands(102)
        found = []
        for piece, reach, limits in stands:
            told = split(piece, reach, limits)
            for _ in range(6 if told else 0):
                value = bent(told, draw)
                is_right = all(weight >= 0 for stand in value for weight in fractions(stand[0]))
                is_right = is_right and fits_table(piece, reach, limits, value) and all(
                    bool(holds(part, stand[0], stand[1])) for part, stand in zip(piece.parts, value))
                self.assertIs(fits_split(piece, reach, limits, value), is_right)
                found.append(is_right)
        self.assertEqual(set(found), {True, False})

    def test_values_of_other_forms(self):
        for piece, reach, limits in self.stands(103, 3)[1]:
            told = listed(split(piece, reach, limits))
            for value in (None, 1, True, "", {}, told + told[:1], [*told, ([1], [1])], [*told, None], [told], [[]], 0.5):
                if value != told:
                    self.assertIs(fits_split(piece, reach, limits, value), False)
            if not told:
                continue
            here, there = told[0]
            for stand in (None, 1, "ab", [], [here], [here, there, []], [there + [1], here], [here, there + [0]],
                          [here + [0], there], [here[:-1], there], [here, there[:-1]], {0: here, 1: there},
                          [here, there[:-1] + [None]], [here, there[:-1] + [0.5]], [here, there[:-1] + ["1"]],
                          [here[:-1] + [True], there], [here[:-1] + [(2, 4)], there], [here, there[:-1] + [False]],
                          [here[:-1] + [-1], there], [None, there], [here, None], [1, 2]):
                self.assertIs(fits_split(piece, reach, limits, [stand, *told[1:]]), False)
            self.assertIs(fits_split(piece, reach, limits, told[:-1]), False)
            self.assertIs(fits_split(piece, reach, limits, []), False)

    def test_true_is_no_number(self):
        piece = KeeperHides([2], End([[1], [1]]))
        self.assertIs(fits_split(piece, [1], [1], [((1, 0), (1,))]), True)
        for value in ([((True, 0), (1,))], [((1, False), (1,))], [((1, 0), (True,))], [((1, 0), (1.0,))]):
            self.assertIs(fits_split(piece, [1], [1], value), False)
        zero = RivalMove([End([[0]])])
        self.assertIs(fits_split(zero, [0], [0], [([0], [0])]), True)
        self.assertIs(fits_split(zero, [0], [0], [([False], [0])]), False)
        self.assertIs(fits_split(zero, [0], [0], [([0], [False])]), False)

    def test_ends(self):
        for reach, limits, is_held in (([1, 1], [7, 7], True), ([1, 1], [8, 9], True), ([1, 1], [7, (69, 10)], False),
                                       ([0, 0], [0, 0], True), ([0, 0], [0, -1], False)):
            for nothing in ((), []):
                self.assertIs(fits_split(TWO, reach, limits, nothing), is_held)
            for value in (None, 0, "", {}, [()], ((),), [(reach, limits)], False):
                self.assertIs(fits_split(TWO, reach, limits, value), False)
            if is_held:
                self.assertEqual(split(TWO, reach, limits), ())
            else:
                self.assertRaises(Impossible, split, TWO, reach, limits)

    def test_each_row_of_the_table(self):
        # For each kind: a reach, limits, what fits, and what does not fit in its reaches or in its limits only.
        high, low = [9, 9], [1, 1]
        for piece, reach, limits, right, wrong in (
            (KeeperMove([TWO, TWO]), [2, 1], [10, 12], [([2, 0], [6, 10]), ([0, 1], [4, 2])],
             [[([2, 0], [6, 10]), ([0, 0], [4, 2])], [([2, 0], [6, 10]), ([0, 1], [5, 2])],
              [([2, 1], [10, 12]), ([2, 1], [0, 0])], [([2, 0], [6, 10]), ([0, 1], [4, 3])]]),
            (RivalMove([TWO, TWO]), [1, 1], [7, 8], [([1, 1], [7, 7]), ([1, 1], [7, 8])],
             [[([1, 1], [7, 7]), ([1, 0], [7, 8])], [([1, 1], [8, 7]), ([1, 1], [7, 8])],
              [([1, 1], [7, 7]), ([1, 1], [7, 9])]]),
            (Draw([(1, 2), 3], [TWO, TWO]), [1, 1], [25, 26], [([1, 1], [8, 7]), ([1, 1], [7, (15, 2)])],
             [[([1, 1], [9, 7]), ([1, 1], [7, 7])], [([(1, 2), (1, 2)], [8, 7]), ([1, 1], [7, 7])],
              [([1, 1], [8, 7]), ([1, 1], [7, 8])]]),
            (Draw([0, 1], [TWO, TWO]), [1, 1], [7, 7], [([1, 1], high), ([1, 1], [7, 7])],
             [[([0, 0], high), ([1, 1], [7, 7])], [([1, 1], low), ([1, 1], [7, 7])],
              [([1, 1], high), ([1, 1], [8, 7])]]),
            (KeeperHides([2], TWO), [1], [4, 3], [([(1, 3), (2, 3)], [4, 3])],
             [[([(1, 3), (1, 3)], [4, 3])], [([(1, 3), (2, 3)], [(11, 3), 2])], [([(1, 3), (2, 3)], [4, (10, 3)])],
              [([(1, 2), (2, 3)], [4, 3])]]),
            (RivalHides([2], TWO), [1, 1], [8], [([1, 1], [8, 7])], [[([1, 1], [9, 7])], [([1, 1], [7, 9])],
                                                                    [([1, 0], [8, 7])]]),
            (KeeperSees([[2, (1, 2)]], TWO), [2], [16, 24], [([4, 1], [16, 22])],
             [[([4, 1], [17, 22])], [([4, 1], [16, 25])], [([1, 1], [16, 22])], [([4, 2], [16, 22])]]),
            (RivalSees([[2, (1, 2)]], TWO), [1, 0], [9], [([1, 0], [3, 6])],
             [[([1, 0], [4, 6])], [([1, 0], [3, 7])], [([2, 0], [3, 6])]]),
            (KeeperShows([[0, 2], [1]], [TWO, End([[1, 1]])]), [1, 5, 1], [12, 13], [([1, 1], [7, 7]), ([5], [5, 6])],
             [[([1, 5], [7, 7]), ([1], [5, 6])], [([1, 1], [7, 7]), ([5], [6, 5])], [([1, 1], [7, 8]), ([5], [5, 6])]]),
            (RivalShows([[0, 2], [1]], [TWO, End([[1], [6]])]), [1, 1], [8, 7, 9], [([1, 1], [8, 9]), ([1, 1], [7])],
             [[([1, 1], [7, 10]), ([1, 1], [7])], [([1, 1], [9, 7]), ([1, 1], [7])], [([1, 1], [7, 7]), ([1, 1], [8])],
              [([1, 1], [7, 7]), ([1, 0], [7])]]),
        ):
            with self.subTest(str(piece)):
                self.check_split(piece, reach, limits)
                self.assertTrue(fits_table(piece, reach, limits, right))
                self.assertIs(fits_split(piece, reach, limits, right), True)
                for value in wrong:
                    self.assertIs(fits_split(piece, reach, limits, value), False)

    def test_not_in_the_cone(self):
        draw = random.Random(104)
        for piece, reach, limits in self.stands(104, 3)[1]:
            limits = [number(value - 10 ** 6) for value in fractions(limits)]
            if not any(reach):
                limits = [-1] * len(limits)
            told = holds(piece, reach, limits)
            if told:
                continue
            self.assertIs(told.__class__, Broken)
            with self.assertRaises(Impossible) as caught:
                split(piece, reach, limits)
            self.assertEqual(caught.exception.paper, told)
            self.assertFalse(caught.exception.paper)
            value = [(below, any_numbers(draw, part.rival_hands)) for part, below in
                     zip(piece.parts, [[0] * part.keeper_hands for part in piece.parts])]
            self.assertIs(fits_split(piece, reach, limits, value), False)

    def test_a_little_below(self):
        thirds = [(((1, 3),), (0, (1, 3), (-1, 3))), (((1, 3),), ((-1, 3), 0, (1, 3))), (((1, 3),), ((1, 3), (-1, 3), 0))]
        self.assertEqual(self.check_split(THROW, (1,), (0, 0, 0)), tuple(thirds))
        less = (0, (-1, 10 ** 30), 0)
        self.assertIs(fits_split(THROW, (1,), less, thirds), False)
        self.assertRaises(Impossible, split, THROW, (1,), less)
        more = (0, (1, 10 ** 30), 0)
        self.assertIs(fits_split(THROW, (1,), more, thirds), True)
        self.check_split(THROW, (1,), more)

    def test_hands_of_reach_nought(self):
        for piece in (KeeperHides([1, 2], End([[1, 2], [3, 4], [5, 6]])), KeeperMove([TWO, TWO]), RivalMove([TWO, TWO])):
            for reach in ([0, 0], [0, 1], [1, 0]):
                self.check_split(piece, reach, [6, 6])
            self.assertEqual(set(at for stand in split(piece, [0, 0], [0, 0]) for at in (*stand[0], *stand[1])), {0})

    def test_wrong_values(self):
        for value in NO_PIECES:
            check_raises(self, BadPiece("piece"), split, value, None, None)
            check_raises(self, BadPiece("piece"), fits_split, value, None, None, None)
        for value in (None, [], [1], [1, -1], [1, True], [1, 1, 1], "11", [1, (2, 2)]):
            check_raises(self, BadNumber("reach"), split, DEEP, value, None)
            check_raises(self, BadNumber("reach"), fits_split, DEEP, value, None, None)
        for value in (None, 1, [], [1, 1], [True], "1", [(2, 4)], [-99, -99]):
            check_raises(self, BadNumber("limits"), split, DEEP, [1, 1], value)
            check_raises(self, BadNumber("limits"), fits_split, DEEP, [1, 1], value, None)
        self.assertEqual(split(limits=[9], reach=[0, 0], piece=DEEP), split(DEEP, [0, 0], [9]))
        self.assertIs(fits_split(value=None, limits=[9], reach=[0, 0], piece=DEEP), False)

    def test_what_is_passed_stays(self):
        reach, limits = [[1, 2], 0], [[7, 2], 3]
        piece = RivalMove([TWO, TWO])
        told = split(piece, reach, limits)
        value = listed(told)
        before = repr((reach, limits, value))
        fits_split(piece, reach, limits, value)
        self.assertEqual(repr((reach, limits, value)), before)
        kept = repr(told)
        reach[0][0] = 9
        limits[0] = 9
        self.assertEqual(repr(told), kept)


if __name__ == "__main__":
    unittest.main()
