import unittest

from examples import check_raises
from trees import GUESS, HIDE, KINDS, chain, some_places, wide

from planless.errors import BadPiece, Misfit, NoWay
from planless.pieces import (
    Draw, End, Hole, KeeperHides, KeeperMove, KeeperSees, RivalHides, RivalMove, choosing_ways, is_frame, is_piece,
    place_at, ways)

NO_PLACES = [None, True, 1, 0.5, "", "end 1 1 5", b"1", (), [], [End([[1]])], {}, End, object()]
PLACES = [place for place, _ in KINDS] + some_places(60, holes=((1, 1), (2, 1), (2, 2))) + [
    HIDE, chain(HIDE, 7), wide(120)]


def walked(place):
    """Return pairs of the way to each place and this place, from a pile of what is still to be seen."""
    found, left = [], [((), place)]
    while left:
        way, here = left.pop()
        found.append((way, here))
        left.extend(((*way, at), part) for at, part in reversed(list(enumerate(here.parts))))
    return found


class WaysTest(unittest.TestCase):
    def test_pieces_and_frames(self):
        for place in PLACES:
            sizes = {(here.keeper_hands, here.rival_hands) for _, here in walked(place) if isinstance(here, Hole)}
            self.assertIs(is_piece(place), len(sizes) == 0)
            self.assertIs(is_frame(place), len(sizes) == 1)
        for value in NO_PLACES:
            self.assertIs(is_piece(value), False)
            self.assertIs(is_frame(value), False)
        self.assertIs(is_piece(value=HIDE), True)
        self.assertIs(is_frame(value=HIDE), False)

    def test_holes_of_two_sizes(self):
        two = KeeperMove([KeeperHides([2], Hole(2, 1)), Hole(1, 1)])
        mixed = KeeperMove([KeeperHides([2], Hole(2, 1)), RivalHides([2], Hole(1, 2)), End([[1]])])
        turned = KeeperMove([KeeperHides([2], KeeperSees([[1], [1]], Hole(2, 1))), RivalHides([1], Hole(1, 1))])
        for place in (two, mixed, turned, Draw([1, 0], [two, two])):
            self.assertIs(is_piece(place), False)
            self.assertIs(is_frame(place), False)
            self.assertEqual(len(ways(place)), place.many)
        same = KeeperMove([KeeperHides([2], KeeperMove([Hole(2, 1)] * 3)), KeeperSees([[0, 1]], Hole(2, 1))])
        self.assertIs(is_frame(same), True)
        self.assertIs(is_piece(same), False)

    def test_ways(self):
        for place in PLACES:
            told = ways(place)
            self.assertEqual(told, tuple(way for way, _ in walked(place)))
            self.assertEqual(repr(told), repr(tuple(tuple(way) for way in told)))
            self.assertEqual((len(told), max(len(way) for way in told) + 1), (place.many, place.levels))
        self.assertEqual(ways(place=End([[1]])), ((),))
        self.assertEqual(ways(KeeperMove([GUESS, Hole(2, 1)])), ((), (0,), (0, 0), (0, 1), (1,)))

    def test_place_at(self):
        for place in PLACES:
            for way, here in walked(place):
                self.assertIs(place_at(place, way), here)
                self.assertIs(place_at(way=list(way), place=place), here)

    def test_no_way(self):
        for place in PLACES:
            for way, here in walked(place)[:20]:
                for at in (len(here.parts), -1, -len(here.parts), 10 ** 60, True, False, None, "0", 0.0, (0,), [0], (1, 2)):
                    check_raises(self, NoWay((*way, at)), place_at, place, (*way, at))
                    check_raises(self, NoWay([*way, at, 0]), place_at, place, [*way, at, 0])
        for way in (None, True, False, 0, 1, "", "0", b"", {}, {0: 1}, {0}, range(0), range(1), 0.5, "()"):
            check_raises(self, NoWay(way), place_at, HIDE, way)

    def test_the_way_is_kept_as_it_was_passed(self):
        way = [0, [1]]
        with self.assertRaises(NoWay) as caught:
            place_at(HIDE, way)
        self.assertIs(caught.exception.value, way)
        self.assertEqual(way, [0, [1]])

    def test_choosing_ways(self):
        kinds = {"keeper": (KeeperMove, KeeperHides), "rival": (RivalMove, RivalHides)}
        for place in PLACES:
            for side in kinds:
                wanted = tuple(way for way, here in walked(place) if here.__class__ in kinds[side])
                self.assertEqual(choosing_ways(place, side), wanted)
                self.assertEqual(choosing_ways(side=side, place=place), wanted)
        self.assertEqual(choosing_ways(End([[1]]), "keeper"), ())

    def test_no_side(self):
        for side in (None, True, 0, "", "Keeper", "keeper ", "both", b"keeper", ["keeper"], ("rival",), {"keeper": 1}):
            check_raises(self, Misfit("side"), choosing_ways, HIDE, side)
            check_raises(self, Misfit("side"), choosing_ways, End([[1]]), side)

    def test_no_place(self):
        for value in NO_PLACES:
            check_raises(self, BadPiece("place"), ways, value)
            check_raises(self, BadPiece("place"), place_at, value, ())
            check_raises(self, BadPiece("place"), place_at, value, None)
            check_raises(self, BadPiece("place"), choosing_ways, value, "keeper")
            check_raises(self, BadPiece("place"), choosing_ways, value, "both")
            check_raises(self, BadPiece("place"), choosing_ways, side=None, place=value)


if __name__ == "__main__":
    unittest.main()
