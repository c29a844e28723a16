import unittest

from examples import check_raises
from trees import GUESS, HIDE, KINDS, chain, some_places, wide

from planless.errors import BadFrame, BadPiece, Misfit, NoWay, TooMany
from planless.frames import cut, exchanged, filled, hole_ways
from planless.pieces import (
    Draw, End, Hole, KeeperHides, KeeperMove, KeeperSees, KeeperShows, RivalHides, RivalMove, RivalSees, RivalShows,
    is_frame, is_piece, place_at, ways)

ONE = End([[5]])
TWO_SIZES = KeeperMove([KeeperHides([2], Hole(2, 1)), Hole(1, 1)])
NO_PLACES = [None, True, 1, 0.5, "", "hole 1 1", b"1", (), [], [ONE], [Hole(1, 1)], {}, End, object()]
PIECES = some_places(60, seed=5) + [HIDE, ONE, wide(30)]
FRAMES = [place for place in some_places(150, holes=((1, 1), (2, 1)), seed=6) + [kind for kind, _ in KINDS]
          if is_frame(place)]
NO_WAYS = [None, True, 0, "", "0", {}, range(0), (9,), [-1], (True,), ("0",), (None,), (0, 9), [[0]], (6,), 0.5]


def hole_in(frame):
    """Return a hole of the frame."""
    return next(here for here in (place_at(frame, way) for way in ways(frame)) if isinstance(here, Hole))


def filled_text(frame, piece):
    """Return the text of the frame with that of the piece for each hole."""
    return str(frame).replace(str(hole_in(frame)), str(piece))


class FramesTest(unittest.TestCase):
    def test_there_are_frames(self):
        self.assertGreater(len(FRAMES), 20)
        self.assertGreater(max(len(hole_ways(frame)) for frame in FRAMES), 2)

    def test_hole_ways(self):
        for frame in FRAMES:
            told = hole_ways(frame)
            self.assertEqual(told, tuple(way for way in ways(frame) if isinstance(place_at(frame, way), Hole)))
            self.assertEqual(hole_ways(frame=frame), told)
        self.assertEqual(hole_ways(Hole(3, 4)), ((),))
        self.assertEqual(hole_ways(Draw([1, 0], [KeeperMove([ONE, Hole(1, 1)]), Hole(1, 1)])), ((0, 1), (1,)))

    def test_no_frame(self):
        for value in [*NO_PLACES, HIDE, ONE, TWO_SIZES]:
            check_raises(self, BadFrame("frame"), hole_ways, value)
            check_raises(self, BadFrame("frame"), filled, value, ONE)
            check_raises(self, BadFrame("frame"), filled, value, None)
            check_raises(self, BadFrame("frame"), filled, piece=GUESS, frame=value)

    def test_filled(self):
        for frame in FRAMES:
            hole = hole_in(frame)
            fitting = [piece for piece in PIECES
                       if (piece.keeper_hands, piece.rival_hands) == (hole.keeper_hands, hole.rival_hands)]
            for piece in [End([[7] * hole.rival_hands] * hole.keeper_hands), *fitting[:5]]:
                told = filled(frame, piece)
                self.assertEqual(str(told), filled_text(frame, piece))
                self.assertEqual(filled(piece=piece, frame=frame), told)
                self.assertIs(is_piece(told), True)
                self.assertEqual((told.keeper_hands, told.rival_hands), (frame.keeper_hands, frame.rival_hands))
                self.assertEqual(told.many, len(ways(told)))
                for way in hole_ways(frame):
                    self.assertEqual(place_at(told, way), piece)
        self.assertEqual(filled(Hole(1, 1), HIDE), HIDE)

    def test_filled_in_each_kind(self):
        end = End([[1, 2], [3, 4]])
        for build in (lambda part: KeeperMove([part, end]), lambda part: RivalMove([end, part, part]),
                      lambda part: Draw([(1, 2), 0], [part, end]), lambda part: KeeperHides([1, 1], part),
                      lambda part: RivalHides([2], part), lambda part: KeeperSees([[0, (1, 3)]], part),
                      lambda part: RivalSees([[1], [2]], part), lambda part: KeeperShows([[0, 1]], [part]),
                      lambda part: KeeperShows([[0, 2], [1, 3]], [part, end]),
                      lambda part: RivalShows([[0, 3], [1, 2]], [end, part])):
            self.assertEqual(filled(build(Hole(2, 2)), end), build(end))
            self.assertIs(filled(build(Hole(2, 2)), end).__class__, build(end).__class__)
            whole = build(end)
            for way in ways(whole)[1:]:
                other = End([[0, (-7, 2)], [0, 0]])
                self.assertEqual(place_at(exchanged(whole, way, other), way), other)
                self.assertEqual(exchanged(exchanged(whole, way, other), way, end), whole)

    def test_filled_with_no_piece(self):
        for value in [*NO_PLACES, Hole(1, 1), TWO_SIZES, KeeperMove([Hole(1, 1)])]:
            check_raises(self, BadPiece("piece"), filled, Hole(1, 1), value)
            check_raises(self, BadPiece("piece"), filled, Hole(2, 2), value)

    def test_filled_with_what_does_not_fit(self):
        for frame in (Hole(1, 2), Hole(2, 2), Draw([1, 1], [Hole(3, 1), End([[0]] * 3)]), KeeperHides([2], Hole(2, 2))):
            for piece in (ONE, GUESS, HIDE):
                check_raises(self, Misfit("piece"), filled, frame, piece)
        # What does not fit is told ahead of what is too many.
        check_raises(self, Misfit("piece"), filled, chain(Hole(2, 2), 9), wide(120))

    def test_too_many_filled(self):
        frame = KeeperMove([Hole(1, 1), Hole(1, 1)])
        self.assertEqual(filled(KeeperMove([Hole(1, 1), ONE]), wide(118)).many, 120)
        check_raises(self, TooMany("places", 120), filled, KeeperMove([Hole(1, 1), ONE]), wide(119))
        self.assertEqual(filled(frame, wide(59)).many, 119)
        check_raises(self, TooMany("places", 120), filled, frame, wide(60))
        self.assertEqual(filled(chain(Hole(1, 1), 5), chain(ONE, 4)).levels, 10)
        check_raises(self, TooMany("levels", 10), filled, chain(Hole(1, 1), 5), chain(ONE, 5))
        check_raises(self, TooMany("levels", 10), filled, chain(frame, 7), chain(ONE, 2))
        self.assertEqual(filled(chain(frame, 7), chain(ONE, 1)).levels, 10)
        # Only beneath the hole that is farthest down there are too many levels.
        uneven = KeeperMove([Hole(1, 1), chain(Hole(1, 1), 4)])
        self.assertEqual(filled(uneven, chain(ONE, 4)).levels, 10)
        check_raises(self, TooMany("levels", 10), filled, uneven, chain(ONE, 5))

    def test_too_many_of_both(self):
        # Places are told ahead of levels, wherever in the whole the levels are too many.
        frame = KeeperMove([chain(Hole(1, 1), 8), wide(109)])
        check_raises(self, TooMany("levels", 10), filled, frame, chain(ONE, 1))
        check_raises(self, TooMany("places", 120), filled, frame, chain(ONE, 2))
        whole = KeeperMove([chain(ONE, 8), wide(109)])
        way = (0,) * 9
        check_raises(self, TooMany("levels", 10), exchanged, whole, way, chain(ONE, 1))
        check_raises(self, TooMany("places", 120), exchanged, whole, way, chain(ONE, 2))

    def test_cut(self):
        for piece in PIECES:
            for way in ways(piece):
                told = cut(piece, way)
                self.assertIsInstance(told, tuple)
                frame, part = told
                self.assertIs(is_frame(frame), True)
                self.assertEqual(part, place_at(piece, way))
                self.assertEqual(hole_ways(frame), (way,))
                hole = place_at(frame, way)
                self.assertEqual((hole.keeper_hands, hole.rival_hands), (part.keeper_hands, part.rival_hands))
                self.assertEqual((frame.keeper_hands, frame.rival_hands), (piece.keeper_hands, piece.rival_hands))
                self.assertEqual(filled(frame, part), piece)
                self.assertEqual(cut(way=list(way), piece=piece), told)
        self.assertEqual(cut(GUESS, []), (Hole(2, 1), GUESS))

    def test_exchanged(self):
        for piece in PIECES[:30]:
            for way in ways(piece):
                there = place_at(piece, way)
                other = RivalMove([End([[(1, 3)] * there.rival_hands] * there.keeper_hands)])
                told = exchanged(piece, way, other)
                self.assertEqual(place_at(told, way), other)
                self.assertEqual(exchanged(told, list(way), there), piece)
                self.assertEqual(exchanged(other=other, way=list(way), piece=piece), told)
                self.assertEqual(str(told).count(str(other)), str(cut(piece, way)[0]).count(str(other)) + 1)
                self.assertEqual(exchanged(piece, way, there), piece)

    def test_no_piece(self):
        for value in [*NO_PLACES, Hole(1, 1), TWO_SIZES, KeeperMove([Hole(1, 1)])]:
            check_raises(self, BadPiece("piece"), cut, value, ())
            check_raises(self, BadPiece("piece"), cut, value, None)
            check_raises(self, BadPiece("piece"), exchanged, value, (), ONE)
            check_raises(self, BadPiece("piece"), exchanged, value, None, None)
            check_raises(self, BadPiece("other"), exchanged, HIDE, (), value)
            check_raises(self, BadPiece("other"), exchanged, HIDE, (0,), value)

    def test_no_way(self):
        for way in NO_WAYS:
            check_raises(self, NoWay(way), cut, HIDE, way)
            check_raises(self, NoWay(way), exchanged, HIDE, way, ONE)
            check_raises(self, NoWay(way), exchanged, HIDE, way, GUESS)
            # The way stands ahead of other.
            check_raises(self, NoWay(way), exchanged, HIDE, way, None)
        way = [0, [1]]
        with self.assertRaises(NoWay) as caught:
            cut(HIDE, way)
        self.assertIs(caught.exception.value, way)

    def test_other_does_not_fit(self):
        for way, other in (((), GUESS), ((0,), ONE), ((0, 1), HIDE), ((), End([[1, 2]])), ((0,), End([[1, 2], [3, 4]]))):
            check_raises(self, Misfit("other"), exchanged, HIDE, way, other)
        check_raises(self, Misfit("other"), exchanged, chain(GUESS, 8), (0,) * 8, wide(120))

    def test_too_many_exchanged(self):
        whole = KeeperMove([ONE, wide(118)])
        self.assertEqual(exchanged(whole, (1,), wide(118)), whole)
        check_raises(self, TooMany("places", 120), exchanged, whole, (1,), wide(119))
        check_raises(self, TooMany("places", 120), exchanged, whole, [0], KeeperMove([ONE]))
        self.assertEqual(exchanged(whole, (), wide(120)), wide(120))
        self.assertEqual(exchanged(chain(ONE, 9), (0,) * 6, chain(ONE, 3)).levels, 10)
        check_raises(self, TooMany("levels", 10), exchanged, chain(ONE, 9), (0,) * 6, chain(ONE, 4))

    def test_what_is_passed_stays(self):
        frame, way = Draw([1, 1], [Hole(1, 1), KeeperMove([ONE, Hole(1, 1)])]), [0, 1]
        texts = str(frame), str(HIDE)
        filled(frame, HIDE)
        cut(HIDE, way)
        exchanged(HIDE, way, End([[1], [2]]))
        self.assertEqual(((str(frame), str(HIDE)), way), (texts, [0, 1]))
        told = cut(HIDE, way)
        way[1] = 0
        self.assertEqual(hole_ways(told[0]), ((0, 1),))


if __name__ == "__main__":
    unittest.main()
