import random
import unittest

from examples import check_raises
from fractions_of import fraction, number
from frames_of import any_frame, compared_pairs, games_of
from test_compared import FLAT, ONE, STEEP, TWO, has_all
from trees import NO_PIECES, chain, wide

from planless.check_compared import shows_compared, shows_never_worse
from planless.compared import Alike, NeverWorse, Unlike, Worse, compared, never_worse
from planless.errors import BadPiece, Misfit, TooMany
from planless.papers import Denial, Paper
from planless.pieces import Draw, End, Hole, KeeperHides, KeeperMove, KeeperSees, RivalMove, RivalSees
from planless.worths import worth

FIRST = KeeperSees([[1, 0]], RivalSees([[1]], Hole(2, 1)))


class AlikeBelow(Alike):
    """No Alike: it was made by a class below it."""


class NeverWorseBelow(NeverWorse):
    """No NeverWorse."""


class UnlikeBelow(Unlike):
    """No Unlike."""


class WorseBelow(Worse):
    """No Worse."""


class CheckComparedTest(unittest.TestCase):
    def test_answers_are_right(self):
        draw = random.Random(261)
        for one, other in compared_pairs(draw, 2, 261):
            told, better = compared(one, other), never_worse(one, other)
            self.assertIs(shows_compared(one, other, told), True)
            self.assertIs(shows_never_worse(one, other, better), True)
            self.assertIs(shows_compared(one, other, Alike()), bool(told))
            self.assertIs(shows_never_worse(one, other, NeverWorse()), has_all(one, other))
            # A paper is right for the two pieces in their order alone.
            if not told:
                self.assertIs(shows_compared(other, one, told), False)
                self.assertIs(shows_compared(other, one, Unlike(told.frame, told.other_worth, told.worth)), True)
                is_above = fraction(told.worth) > fraction(told.other_worth)
                self.assertIs(shows_never_worse(one, other, Worse(*told.parts)), is_above)
            if not better:
                self.assertIs(shows_never_worse(other, one, better), False)
                self.assertIs(shows_compared(one, other, Unlike(*better.parts)), True)

    def test_any_frames(self):
        draw = random.Random(262)
        found = []
        for one, other in compared_pairs(draw, 1, 262, 2):
            frame = any_frame(draw, one.keeper_hands, one.rival_hands)
            games = games_of(frame, one, other)
            if games is None:
                self.assertIs(shows_compared(one, other, Unlike(frame, 0, 1)), False)
                self.assertIs(shows_never_worse(one, other, Worse(frame, 1, 0)), False)
                continue
            here, there = [fraction(worth(game, [1], [1]).number) for game in games]
            self.assertIs(shows_compared(one, other, Unlike(frame, number(here), number(there))), here != there)
            self.assertIs(shows_never_worse(one, other, Worse(frame, number(here), number(there))), here > there)
            # Worths that are exchanged, or are not these, are not right.
            if here != there:
                self.assertIs(shows_compared(one, other, Unlike(frame, number(there), number(here))), False)
            self.assertIs(shows_compared(one, other, Unlike(frame, number(here), number(there + 1))), False)
            self.assertIs(shows_compared(one, other, Unlike(frame, number(here - 1), number(there))), False)
            self.assertIs(shows_never_worse(one, other, Worse(frame, number(here + 1), number(there))), False)
            found.append(here != there)
        self.assertEqual(set(found), {True, False})

    def test_frames_that_make_no_games(self):
        for frame in (None, 1, "frame", FLAT, ONE, KeeperSees([[1, 0]], FLAT), Hole(2, 1), Hole(1, 1), RivalSees([[1]], Hole(2, 1)),
                      KeeperSees([[1]], Hole(1, 1)), KeeperSees([[1, 0, 0]], Hole(3, 1)), KeeperSees([[1, 0]], Hole(2, 2)),
                      KeeperHides([2], KeeperSees([[1], [1]], RivalSees([[1, 1]], Hole(2, 2)))), KeeperSees([[1, 0], [1]], Hole(3, 1)),
                      str(FIRST), [FIRST], chain(FIRST, 3).parts, KeeperSees):
            self.assertIs(shows_compared(FLAT, STEEP, Unlike(frame, 1, 0)), False)
            self.assertIs(shows_never_worse(FLAT, STEEP, Worse(frame, 1, 0)), False)
        self.assertIs(shows_compared(FLAT, STEEP, Unlike(FIRST, 1, 0)), True)
        # Holes for other pieces, beside those that are for these.
        mixed = KeeperMove([FIRST, KeeperSees([[1, 0, 0]], Hole(3, 1))])
        self.assertIs(shows_compared(FLAT, STEEP, Unlike(mixed, 1, 0)), False)

    def test_frames_that_are_too_great_for_one(self):
        tall = chain(STEEP, 7)
        for by, told in ((0, True), (1, False), (2, False)):
            frame = chain(FIRST, by)
            self.assertIs(shows_compared(FLAT, tall, Unlike(frame, 1, 0)), told)
            self.assertIs(shows_compared(tall, FLAT, Unlike(frame, 0, 1)), told)
            self.assertIs(shows_never_worse(FLAT, tall, Worse(frame, 1, 0)), told)
        self.assertIs(shows_compared(FLAT, STEEP, Unlike(chain(FIRST, 7), 1, 0)), True)
        many = KeeperMove([*[KeeperMove([STEEP] * 6)] * 5, STEEP])
        for shares, told in (((16, 16, 16, 16, 16), True), ((16, 16, 16, 16, 17), False), ((17, 17, 17, 17, 17), False)):
            frame = KeeperMove([FIRST, *[wide(share, End([[9]])) for share in shares]])
            self.assertEqual(frame.many - 1 + many.many, 120 + sum(shares) - 80)
            self.assertIs(shows_compared(FLAT, many, Unlike(frame, 1, 0)), told)
            self.assertIs(shows_never_worse(FLAT, many, Worse(frame, 1, 0)), told)

    def test_frames_with_several_holes(self):
        for frame, here, there in (
            (Draw([1, (1, 2)], [FIRST, FIRST]), (3, 2), 0),
            (KeeperMove([FIRST, KeeperSees([[0, 1]], Hole(2, 1))]), 1, 0),
            (RivalMove([FIRST, KeeperSees([[0, 1]], Hole(2, 1))]), 1, 2),
            (KeeperSees([[1, 1]], KeeperMove([Hole(2, 1), Hole(2, 1)])), 2, 2),
            (KeeperSees([[1, 1]], Draw([1, 1], [Hole(2, 1), KeeperHides([1, 1], Hole(2, 1))])), 4, 4),
            (Draw([1, 0], [KeeperSees([[0, 1]], Hole(2, 1)), FIRST]), 1, 2),
        ):
            self.assertIs(shows_compared(FLAT, STEEP, Unlike(frame, here, there)), here != there)
            self.assertIs(shows_never_worse(FLAT, STEEP, Worse(frame, here, there)), fraction(here) > fraction(there))
            self.assertIs(shows_never_worse(STEEP, FLAT, Worse(frame, there, here)), fraction(there) > fraction(here))

    def test_worths_of_other_forms(self):
        half = KeeperSees([[(1, 2), 0]], RivalSees([[1]], Hole(2, 1)))
        for value, told in (((1, 2), True), ([1, 2], True), ((2, 4), False), (0.5, False), ("1/2", False), (None, False),
                            (True, False), ((-1, 2), False), ((1, 2, 3), False), (1, False)):
            self.assertIs(shows_compared(FLAT, STEEP, Unlike(half, value, 0)), told)
            self.assertIs(shows_compared(STEEP, FLAT, Unlike(half, 0, value)), told)
            self.assertIs(shows_never_worse(FLAT, STEEP, Worse(half, value, 0)), told)
        for value in (True, (1, 1), 1.0, "1", [1]):
            self.assertIs(shows_compared(FLAT, STEEP, Unlike(FIRST, value, 0)), False)
            self.assertIs(shows_compared(STEEP, FLAT, Unlike(FIRST, 0, value)), False)
            self.assertIs(shows_never_worse(FLAT, STEEP, Worse(FIRST, value, 0)), False)
        for value in (False, (0, 1), 0.0, (0, 5), None):
            self.assertIs(shows_compared(FLAT, STEEP, Unlike(FIRST, 1, value)), False)
            self.assertIs(shows_never_worse(FLAT, STEEP, Worse(FIRST, 1, value)), False)

    def test_alike_and_never_worse(self):
        for one, other in ((FLAT, FLAT), (KeeperMove([TWO, ONE]), ONE), (TWO, RivalMove([ONE, TWO]))):
            self.assertIs(shows_compared(one, other, Alike()), True)
            self.assertIs(shows_never_worse(one, other, NeverWorse()), True)
            self.assertIs(shows_never_worse(one, other, Alike()), False)
            self.assertIs(shows_compared(one, other, NeverWorse()), False)
        for one, other in ((FLAT, STEEP), (TWO, ONE)):
            self.assertIs(shows_compared(one, other, Alike()), False)
            self.assertIs(shows_never_worse(one, other, NeverWorse()), False)
        self.assertIs(shows_never_worse(ONE, TWO, NeverWorse()), True)
        # Alike pieces are unlike in no frame.
        self.assertIs(shows_compared(FLAT, FLAT, Unlike(FIRST, 1, 1)), False)
        self.assertIs(shows_compared(FLAT, FLAT, Unlike(FIRST, 1, 0)), False)

    def test_other_values(self):
        for value in (None, True, 1, "alike", (), Alike, Paper("alike"), Denial("alike"), AlikeBelow(), NeverWorse(), {},
                      Unlike(FIRST, 1, 1), [Alike()]):
            self.assertIs(shows_compared(FLAT, FLAT, value), False)
        for value in (None, False, Denial("unlike", FIRST, 1, 0), Paper("unlike", FIRST, 1, 0), UnlikeBelow(FIRST, 1, 0),
                      Worse(FIRST, 1, 0), (FIRST, 1, 0), Unlike, Unlike(None, None, None), Alike()):
            self.assertIs(shows_compared(FLAT, STEEP, value), False)
        for value in (None, True, "neverworse", Paper("neverworse"), NeverWorseBelow(), Alike(), NeverWorse):
            self.assertIs(shows_never_worse(FLAT, FLAT, value), False)
        for value in (None, Denial("worse", FIRST, 1, 0), WorseBelow(FIRST, 1, 0), Unlike(FIRST, 1, 0), (FIRST, 1, 0)):
            self.assertIs(shows_never_worse(FLAT, STEEP, value), False)
        self.assertIs(shows_never_worse(FLAT, STEEP, Worse(FIRST, 1, 0)), True)

    def test_wrong_values(self):
        tall, many = chain(ONE, 8), wide(119)
        seven = End([[0] * 4] * 3)
        for function, value in ((shows_compared, Alike()), (shows_never_worse, NeverWorse()), (shows_compared, None)):
            for wrong in NO_PIECES:
                check_raises(self, BadPiece("one"), function, wrong, None, value)
                check_raises(self, BadPiece("other"), function, tall, wrong, value)
            check_raises(self, Misfit("other"), function, tall, seven, value)
            check_raises(self, Misfit("other"), function, FLAT, End([[1, 1]]), value)
            check_raises(self, TooMany("levels", 8), function, tall, many, value)
            check_raises(self, TooMany("places", 118), function, many, tall, value)
            check_raises(self, TooMany("levels", 8), function, ONE, tall, value)
            check_raises(self, TooMany("places", 118), function, ONE, many, value)
            check_raises(self, TooMany("hands", 6), function, seven, seven, value)
            check_raises(self, TooMany("levels", 8), function, seven, chain(seven, 9), value)
        self.assertIs(shows_compared(value=Alike(), other=ONE, one=ONE), True)
        self.assertIs(shows_never_worse(value=NeverWorse(), other=TWO, one=ONE), True)

    def test_what_is_passed_stays(self):
        paper = Unlike(FIRST, 1, 0)
        before = str(FIRST), str(FLAT), str(STEEP), paper.worth, paper.other_worth
        self.assertIs(shows_compared(FLAT, STEEP, paper), True)
        self.assertEqual((str(paper.frame), str(FLAT), str(STEEP), paper.worth, paper.other_worth), before)


if __name__ == "__main__":
    unittest.main()
