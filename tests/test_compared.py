import random
import unittest

from examples import check_raises
from fractions_of import fraction
from frames_of import any_frame, compared_pairs, games_of, raised, turned_alike
from cones_of import great_listed_pieces, listed_pieces
from shown import check_worth
from trees import NO_PIECES, chain, wide

from planless.compared import Alike, NeverWorse, Unlike, Worse, compared, never_worse
from planless.cones import holds
from planless.errors import BadPiece, Misfit, TooMany
from planless.frames import filled, hole_ways
from planless.lists import rays_for
from planless.papers import Denial, Paper
from planless.pieces import End, KeeperHides, KeeperMove, RivalHides, RivalMove
from planless.worths import worth

ONE, TWO = End([[1]]), End([[2]])
FLAT, STEEP = End([[1], [1]]), End([[0], [2]])


def has_all(one, other):
    """Tell whether all rays of the other piece's cone can be held in the one piece."""
    mine = one.keeper_hands
    return all(holds(one, ray[:mine], ray[mine:]) for ray in rays_for(other))


class ComparedTest(unittest.TestCase):
    def game_worth(self, game):
        """Return the worth of a game, which is checked by its books."""
        self.assertEqual((game.keeper_hands, game.rival_hands), (1, 1))
        return check_worth(self, game, [1], [1], worth(game, [1], [1]))

    def check_frame(self, one, other, told):
        """Check the frame and the worths of a denial; return the worths."""
        self.assertEqual(told.parts, (told.frame, told.worth, told.other_worth))
        self.assertGreaterEqual(len(hole_ways(told.frame)), 1)
        found = fraction(told.worth), fraction(told.other_worth)
        self.assertEqual((self.game_worth(filled(told.frame, one)), self.game_worth(filled(told.frame, other))), found)
        return found

    def check_compared(self, one, other):
        """Check that two pieces are rightly compared; return whether they are alike."""
        told = compared(one, other)
        self.assertEqual(told, compared(one, other))
        if told.__class__ is Alike:
            self.assertEqual((told.word, told.parts, bool(told)), ("alike", (), True))
            self.assertTrue(has_all(one, other) and has_all(other, one))
            return True
        self.assertIs(told.__class__, Unlike)
        self.assertEqual((told.word, bool(told)), ("unlike", False))
        here, there = self.check_frame(one, other, told)
        self.assertNotEqual(here, there)
        return False

    def check_never_worse(self, one, other):
        """Check that it is rightly told whether a piece is never worse than another one; return it."""
        told = never_worse(one, other)
        self.assertEqual(told, never_worse(one, other))
        if told.__class__ is NeverWorse:
            self.assertEqual((told.word, told.parts, bool(told)), ("neverworse", (), True))
            self.assertTrue(has_all(one, other))
            return True
        self.assertIs(told.__class__, Worse)
        self.assertEqual((told.word, bool(told)), ("worse", False))
        here, there = self.check_frame(one, other, told)
        self.assertGreater(here, there)
        return False

    def test_papers(self):
        for paper, parent in ((Alike, Paper), (NeverWorse, Paper), (Unlike, Denial), (Worse, Denial)):
            self.assertTrue(issubclass(paper, parent))
            self.assertEqual(issubclass(paper, Denial), parent is Denial)
        self.assertEqual((Alike().parts, NeverWorse().word, Alike() == NeverWorse()), ((), "neverworse", False))
        told = Unlike([1, [2]], other_worth=[1, 3], worth=None)
        self.assertEqual((told.word, told.parts, told.frame, told.worth, told.other_worth, bool(told)),
                         ("unlike", ((1, (2,)), None, (1, 3)), (1, (2,)), None, (1, 3), False))
        self.assertEqual(Worse(frame=1, worth=2, other_worth=3), Worse(1, 2, 3))
        self.assertNotEqual(Worse(1, 2, 3), Unlike(1, 2, 3))

    def test_pairs(self):
        draw = random.Random(241)
        found = []
        for one, other in compared_pairs(draw, 2, 241):
            alike = self.check_compared(one, other)
            self.assertIs(alike, bool(compared(other, one)))
            first, second = self.check_never_worse(one, other), self.check_never_worse(other, one)
            # Each is never worse than the other one exactly if they are alike.
            self.assertIs(first and second, alike)
            found.append((first, second))
        self.assertEqual(set(found), {(True, True), (True, False), (False, True), (False, False)})

    def test_alike_by_make(self):
        draw = random.Random(242)
        for piece in listed_pieces(1, 242, (2, 3)) + great_listed_pieces(2, 242):
            for other in [piece, *turned_alike(draw, piece)]:
                if other.levels <= 8:
                    self.assertEqual(compared(piece, other), Alike())
                    self.assertEqual(never_worse(other, piece), NeverWorse())

    def test_in_frames(self):
        draw = random.Random(243)
        tried = 0
        for one, other in compared_pairs(draw, 1, 243, 2):
            alike, better = compared(one, other), never_worse(one, other)
            for _ in range(2):
                games = games_of(any_frame(draw, one.keeper_hands, one.rival_hands), one, other)
                if games is not None and (alike or better):
                    tried += 1
                    here, there = [self.game_worth(game) for game in games]
                    self.assertLessEqual(here, there)
                    if alike:
                        self.assertEqual(here, there)
        self.assertGreater(tried, 40)

    def test_more_choices(self):
        draw = random.Random(244)
        for one, other in compared_pairs(draw, 1, 244, 2):
            both, theirs = KeeperMove([one, other]), RivalMove([one, other])
            if both.levels <= 8:
                for piece in (one, other):
                    self.assertTrue(never_worse(both, piece))
                    self.assertTrue(never_worse(piece, theirs))
                    self.assertTrue(never_worse(piece, raised(piece, 1)))
                    self.assertFalse(never_worse(raised(piece, (1, 10 ** 9)), piece))
                self.assertIs(bool(compared(both, one)), bool(never_worse(one, other)))

    def test_numbers(self):
        for one, other, alike, first, second in (
            (TWO, TWO, True, True, True), (ONE, TWO, False, True, False), (TWO, KeeperMove([TWO, ONE]), False, False, True),
            (FLAT, STEEP, False, False, False), (End([[2, 0]]), End([[0, 2]]), False, False, False),
            (End([[0, 1]]), End([[0, 2]]), False, True, False), (End([[0]]), End([[(1, 10 ** 40)]]), False, True, False),
            (KeeperHides([2], FLAT), ONE, True, True, True), (RivalHides([2], End([[1, 0]])), ONE, True, True, True),
            (KeeperMove([End([[0, 2]]), End([[2, 0]])]), End([[1, 1]]), False, True, False),
        ):
            self.assertIs(self.check_compared(one, other), alike)
            self.assertIs(self.check_never_worse(one, other), first)
            self.assertIs(self.check_never_worse(other, one), second)

    def test_levels_and_places(self):
        tall, taller = chain(ONE, 7), chain(ONE, 8)
        many, more = wide(118), wide(119)
        self.assertEqual((tall.levels, taller.levels, many.many, more.many), (8, 9, 118, 119))
        self.assertEqual((compared(tall, ONE), never_worse(ONE, tall)), (Alike(), NeverWorse()))
        told = compared(tall, TWO)
        self.assertEqual((filled(told.frame, tall).levels, self.check_frame(tall, TWO, told)), (10, (1, 2)))
        self.assertEqual(compared(many, End([[0]])), Alike())
        told = never_worse(ONE, many)
        self.assertEqual((filled(told.frame, many).many, self.check_frame(ONE, many, told)), (120, (1, 0)))
        for function in (compared, never_worse):
            check_raises(self, TooMany("levels", 8), function, taller, ONE)
            check_raises(self, TooMany("levels", 8), function, ONE, taller)
            check_raises(self, TooMany("places", 118), function, more, ONE)
            check_raises(self, TooMany("places", 118), function, ONE, more)
            # Of one, then of other; of each its levels, then its places.
            check_raises(self, TooMany("places", 118), function, more, taller)
            check_raises(self, TooMany("levels", 8), function, taller, more)
            check_raises(self, TooMany("levels", 8), function, chain(wide(114), 6), more)
            check_raises(self, TooMany("levels", 8), function, ONE, chain(wide(114), 6))

    def test_hands(self):
        seven, six = End([[0] * 4] * 3), End([[0] * 3] * 3)
        below = KeeperHides([2, 1, 1], End([[0] * 3] * 4))
        for function in (compared, never_worse):
            check_raises(self, TooMany("hands", 6), function, seven, seven)
            check_raises(self, TooMany("hands", 6), function, six, below)
            check_raises(self, TooMany("hands", 6), function, below, six)
            check_raises(self, TooMany("levels", 8), function, below, chain(six, 8))
            check_raises(self, TooMany("levels", 8), function, seven, chain(seven, 8))
        self.assertEqual(compared(six, KeeperHides([1] * 3, six)), Alike())

    def test_wrong_values(self):
        for function in (compared, never_worse):
            for value in NO_PIECES:
                check_raises(self, BadPiece("one"), function, value, None)
                check_raises(self, BadPiece("other"), function, chain(ONE, 9), value)
                check_raises(self, BadPiece("one"), function, other=ONE, one=value)
            for other in (FLAT, End([[1, 1]]), End([[0] * 8] * 8), KeeperHides([2], chain(FLAT, 1)).parts[0]):
                check_raises(self, Misfit("other"), function, ONE, other)
                check_raises(self, Misfit("other"), function, other, chain(ONE, 9))
            check_raises(self, Misfit("other"), function, End([[0] * 4] * 3), End([[0] * 3] * 4))

    def test_what_is_passed_stays(self):
        before = str(FLAT), str(STEEP)
        told = compared(FLAT, STEEP)
        kept = str(told.frame), told.worth, told.other_worth
        never_worse(FLAT, STEEP)
        self.assertEqual((str(FLAT), str(STEEP)), before)
        self.assertEqual((str(told.frame), told.worth, told.other_worth), kept)
        self.assertEqual(compared(End([(1,), (1,)]), End(((0,), (2,)))), told)


if __name__ == "__main__":
    unittest.main()
