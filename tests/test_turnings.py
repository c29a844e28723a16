import random
import unittest

from cones_of import cone_rows, great_listed_pieces, has_few_hands, listed_pieces
from examples import check_raises
from fractions_of import fraction, fractions
from frames_of import any_frame, changed_end, games_of
from reckoning import earned, paid, rows_of
from trees import BLUFF, NO_PIECES, any_book, any_number, any_reach, chain, great_places, places_of_all_kinds, wide

from planless.books import Book
from planless.compared import compared
from planless.errors import BadNumber, BadPiece, Misfit, TooMany
from planless.lists import rays_for, walls_for
from planless.pieces import (
    Draw, End, KeeperHides, KeeperMove, KeeperShows, RivalHides, RivalMove, RivalSees, RivalShows, place_at, ways)
from planless.turnings import joined, opened, scaled, trimmed
from planless.worths import worth

ONE, TWO = End([[1]]), End([[2]])


def opened_anew(place):
    """Return the place opened, as the document tells it."""
    parts = [opened_anew(part) for part in place.parts]
    mine, theirs, many = place.keeper_hands, place.rival_hands, len(parts)
    if isinstance(place, End):
        return place
    if isinstance(place, KeeperMove):
        lots = [list(range(at, mine * many, many)) for at in range(many)]
        return KeeperHides([many] * mine, KeeperShows(lots, parts))
    lots = [list(range(at, theirs * many, many)) for at in range(many)]
    if isinstance(place, RivalMove):
        return RivalHides([many] * theirs, RivalShows(lots, parts))
    if isinstance(place, Draw):
        return RivalSees([place.weights] * theirs, RivalShows(lots, parts))
    return place.with_parts(parts)


def is_too_great(piece):
    """Tell whether a piece has too many parts at a place to be opened, or makes a place that cannot be."""
    places = [place_at(piece, way) for way in ways(piece)]
    if any(len(place.parts) > 4 for place in places if isinstance(place, (Draw, KeeperMove, RivalMove))):
        return True
    try:
        opened_anew(piece)
    except ValueError:
        return True
    return False


def trimmed_anew(place):
    """Return the place trimmed, by lists of whole pieces."""
    if isinstance(place, End):
        return place
    place = place.with_parts([trimmed_anew(part) for part in place.parts])
    if not isinstance(place, (KeeperMove, RivalMove)):
        return place
    for at in reversed(range(len(place.parts))):
        if len(place.parts) > 1:
            left = place.with_parts(place.parts[:at] + place.parts[at + 1:])
            if rays_for(left) == rays_for(place):
                place = left
    return place


def full(levels, leaf=ONE):
    """Return a tree of moves of four parts each."""
    return leaf if levels == 1 else KeeperMove([full(levels - 1, leaf)] * 4)


def shown_again(part, many):
    """Return the part beneath so many places that show nothing."""
    for _ in range(many):
        part = KeeperShows([list(range(part.keeper_hands))], [part])
    return part


def with_moves(many, beside=0):
    """Return a tree of 85 places, in which so many ends are beneath a move each, and one beneath places beside."""
    ends = [RivalMove([ONE])] * many + [shown_again(ONE, beside)] + [ONE] * (63 - many)
    rows = [KeeperMove(ends[at:at + 4]) for at in range(0, 64, 4)]
    return KeeperMove([KeeperMove(rows[at:at + 4]) for at in range(0, 16, 4)])


class TurningsTest(unittest.TestCase):
    def opened_or_none(self, piece):
        """Return the opened piece, or None if it is too great."""
        try:
            return opened(piece)
        except TooMany:
            return None

    def test_opened_pieces(self):
        draw = random.Random(291)
        told = 0
        for piece in places_of_all_kinds(9, 291) + great_places(8, 291):
            found = self.opened_or_none(piece)
            if found is None:
                self.assertTrue(is_too_great(piece))
                continue
            told += 1
            self.assertEqual((found, str(found)), (opened_anew(piece), str(opened_anew(piece))))
            self.assertFalse(any(isinstance(place_at(found, way), (Draw, KeeperMove, RivalMove)) for way in ways(found)))
            # A book for the one is a book for the other, choice by choice.
            for side, hands in (("keeper", piece.keeper_hands), ("rival", piece.rival_hands)):
                book, reach = any_book(draw, piece, side), any_reach(draw, hands)
                self.assertEqual(earned(Book(found, side, book.chances), reach), earned(book, reach))
            reach, theirs = any_reach(draw, piece.keeper_hands), any_reach(draw, piece.rival_hands)
            self.assertEqual(worth(found, reach, theirs).number, worth(piece, reach, theirs).number)
        self.assertGreater(told, 60)

    def test_opened_cones(self):
        tried = 0
        for piece in listed_pieces(4, 292, (2, 3)) + great_listed_pieces(3, 292):
            found = self.opened_or_none(piece)
            if found is not None and has_few_hands(found):
                tried += 1
                self.assertEqual((rays_for(found), walls_for(found)), (rays_for(piece), walls_for(piece)))
                if found.levels <= 8:
                    self.assertTrue(compared(piece, found))
        self.assertGreater(tried, 30)

    def test_opened_kinds(self):
        two, other = End([[1, 2]]), End([[3, 4]])
        for piece, told in (
            (ONE, ONE), (KeeperMove([ONE]), KeeperHides([1], KeeperShows([[0]], [ONE]))),
            (RivalMove([two, other, two]), RivalHides([3, 3], RivalShows([[0, 3], [1, 4], [2, 5]], [two, other, two]))),
            (KeeperMove([two, other]), KeeperHides([2], KeeperShows([[0], [1]], [two, other]))),
            (Draw([(1, 2), 0], [two, other]), RivalSees([[(1, 2), 0]] * 2, RivalShows([[0, 2], [1, 3]], [two, other]))),
            (Draw([3], [two]), RivalSees([[3], [3]], RivalShows([[0, 1]], [two]))),
            (KeeperHides([1], RivalMove([ONE])), KeeperHides([1], RivalHides([1], RivalShows([[0]], [ONE])))),
            (KeeperMove([RivalMove([ONE, TWO]), RivalMove([TWO, ONE])]),
             KeeperHides([2], KeeperShows([[0], [1]], [RivalHides([2], RivalShows([[0], [1]], [ONE, TWO])),
                                                       RivalHides([2], RivalShows([[0], [1]], [TWO, ONE]))]))),
        ):
            self.assertEqual(opened(piece), told)
            self.assertEqual(opened(told), told)

    def test_opened_too_great(self):
        for kind in (KeeperMove, RivalMove, lambda parts: Draw([1] * len(parts), parts)):
            self.assertEqual(opened(kind([ONE] * 4)).many, 6)
            for piece in (kind([ONE] * 5), kind([ONE] * 6), KeeperMove([kind([ONE] * 5)]), shown_again(kind([ONE] * 5), 4)):
                check_raises(self, TooMany("parts", 4), opened, piece)
        eight, nine = End([[0] * 2] * 4), End([[0] * 3] * 3)
        self.assertEqual(opened(KeeperMove([eight] * 2)).parts[0].keeper_hands, 8)
        self.assertEqual(opened(RivalMove([eight] * 4)).parts[0].rival_hands, 8)
        self.assertEqual(opened(Draw([1] * 4, [eight] * 4)).parts[0].rival_hands, 8)
        self.assertEqual(opened(RivalMove([End([[0]] * 8)] * 4)).keeper_hands, 8)
        for piece in (KeeperMove([nine] * 3), RivalMove([nine] * 3), Draw([1] * 3, [nine] * 3), KeeperMove([eight] * 3),
                      KeeperHides([2, 1], KeeperMove([nine] * 3)), KeeperMove([ONE, shown_again(KeeperHides([3], RivalHides(
                          [3], RivalMove([nine] * 3))), 2)])):
            check_raises(self, TooMany("hands", 8), opened, piece)
        # Parts are told ahead of hands, wherever they are.
        check_raises(self, TooMany("parts", 4), opened, KeeperMove([nine] * 5))
        check_raises(self, TooMany("parts", 4), opened,
                     KeeperMove([KeeperHides([1], RivalHides([3], RivalMove([End([[0] * 3])] * 3))), KeeperMove([ONE] * 5)]))
        # Hands are told ahead of places, and places ahead of levels.
        check_raises(self, TooMany("hands", 8), opened,
                     KeeperMove([with_moves(9), KeeperHides([3], RivalHides([3], RivalMove([nine] * 3)))]))

    def test_opened_places_and_levels(self):
        for piece, places, levels in ((full(4), 106, 7), (with_moves(7), 120, 9), (with_moves(6, 2), 120, 9),
                                      (with_moves(7, 3), 123, 10), (chain(ONE, 4), 9, 9),
                                      (shown_again(chain(ONE, 4), 1), 10, 10), (with_moves(0, 3), 109, 10)):
            if places <= 120:
                found = opened(piece)
                self.assertEqual((found.many, found.levels), (places, levels))
            else:
                check_raises(self, TooMany("places", 120), opened, piece)
        for piece in (with_moves(7, 1), with_moves(8), with_moves(12), with_moves(10, 3)):
            check_raises(self, TooMany("places", 120), opened, piece)
        for piece in (chain(ONE, 5), shown_again(chain(ONE, 4), 2), shown_again(chain(TWO, 5), 1), with_moves(0, 4)):
            check_raises(self, TooMany("levels", 10), opened, piece)
        # Of a piece that has too many of both the places are told.
        check_raises(self, TooMany("places", 120), opened, with_moves(8, 4))

    def test_trimmed(self):
        draw = random.Random(293)
        cut = 0
        for piece in listed_pieces(5, 293, (2, 3, 4)) + great_listed_pieces(8, 293):
            for place in (piece, KeeperMove([piece, piece]), RivalMove([piece, changed_end(draw, piece), piece])):
                if place.levels > 8:
                    continue
                found = trimmed(place)
                self.assertEqual(str(found), str(trimmed_anew(place)))
                self.assertEqual((rays_for(found), walls_for(found)), (rays_for(place), walls_for(place)))
                self.assertEqual(trimmed(found), found)
                cut += found != place
        self.assertGreater(cut, 100)

    def test_trimmed_parts(self):
        three, five = End([[3]]), End([[5]])
        for piece, told in (
            (ONE, ONE), (KeeperMove([ONE]), KeeperMove([ONE])), (KeeperMove([ONE, ONE, ONE]), KeeperMove([ONE])),
            (RivalMove([ONE, three, five, three]), RivalMove([five])), (KeeperMove([three, ONE, five, TWO]), KeeperMove([ONE])),
            # Of two parts alike, however they are made, the last one goes out.
            (KeeperMove([Draw([1], [ONE]), ONE]), KeeperMove([Draw([1], [ONE])])),
            (KeeperMove([ONE, Draw([1], [ONE])]), KeeperMove([ONE])),
            (KeeperMove([RivalMove([ONE, TWO]), KeeperMove([TWO, five])]), KeeperMove([RivalMove([TWO])])),
            (Draw([0, 1], [KeeperMove([ONE, TWO])] * 2), Draw([0, 1], [KeeperMove([ONE])] * 2)),
            (RivalMove([KeeperMove([five, three]), RivalMove([ONE, three])]), RivalMove([KeeperMove([three])])),
            (KeeperShows([[0], [1]], [KeeperMove([ONE, TWO]), ONE]), KeeperShows([[0], [1]], [KeeperMove([ONE]), ONE])),
            (KeeperMove([End([[1, 0]]), End([[0, 1]]), End([[(1, 2), (1, 2)]])]), KeeperMove([End([[1, 0]]), End([[0, 1]])])),
            (KeeperMove([End([[(1, 2), (1, 2)]]), End([[1, 0]]), End([[0, 1]])]), KeeperMove([End([[1, 0]]), End([[0, 1]])])),
        ):
            self.assertEqual((trimmed(piece), str(trimmed(piece))), (told, str(told)))
            self.assertEqual(trimmed_anew(piece), told)
        big = End([[0] * 4] * 3)
        for piece in (big, KeeperMove([big]), KeeperHides([2, 1], big), RivalMove([ONE, KeeperHides([3], RivalHides([4], big))])):
            check_raises(self, TooMany("hands", 6), trimmed, piece)
        many = wide(120, End([[0]]))
        self.assertEqual(trimmed(many).many, trimmed(many).levels)

    def test_scaled(self):
        draw = random.Random(294)
        for piece in places_of_all_kinds(4, 294) + great_places(4, 294):
            for by in (0, 1, any_number(draw, 1), (1, 10 ** 20), 10 ** 30):
                found = scaled(piece, by)
                self.assertEqual([way for way in ways(found)], [way for way in ways(piece)])
                for way in ways(piece):
                    place, here = place_at(found, way), place_at(piece, way)
                    self.assertIs(place.__class__, here.__class__)
                    if isinstance(here, End):
                        self.assertEqual([fractions(row) for row in place.table],
                                         [[fraction(by) * pay for pay in fractions(row)] for row in here.table])
                reach, theirs = any_reach(draw, piece.keeper_hands), any_reach(draw, piece.rival_hands)
                self.assertEqual(fraction(worth(found, reach, theirs).number),
                                 fraction(by) * fraction(worth(piece, reach, theirs).number))
                book = any_book(draw, piece, "keeper")
                self.assertEqual(earned(Book(found, "keeper", book.chances), reach),
                                 [fraction(by) * value for value in earned(book, reach)])
            self.assertEqual(str(scaled(piece, 1)), str(piece))
        self.assertEqual(scaled(BLUFF, [1, 2]), scaled(BLUFF, (1, 2)))

    def test_joined(self):
        draw = random.Random(295)
        pieces = listed_pieces(3, 295, (2, 3)) + great_listed_pieces(2, 295)
        for one in pieces:
            other = draw.choice([piece for piece in pieces if (piece.keeper_hands, piece.rival_hands) ==
                                 (one.keeper_hands, one.rival_hands)])
            found = joined(one, other)
            self.assertEqual(found, Draw([1, 1], [one, other]))
            reach, theirs = any_reach(draw, one.keeper_hands), any_reach(draw, one.rival_hands)
            self.assertEqual(fraction(worth(found, reach, theirs).number),
                             sum(fraction(worth(piece, reach, theirs).number) for piece in (one, other)))
            books = [any_book(draw, piece, side) for side in ("keeper", "rival") for piece in (one, other)]
            mine = Book(found, "keeper", [*books[0].chances, *books[1].chances])
            others = Book(found, "rival", [*books[2].chances, *books[3].chances])
            self.assertEqual(earned(mine, reach), [here + there for here, there in zip(
                earned(books[0], reach), earned(books[1], reach))])
            self.assertEqual(paid(found, rows_of(mine), rows_of(others), fractions(reach), fractions(theirs)),
                             sum(paid(piece, rows_of(books[at]), rows_of(books[2 + at]), fractions(reach), fractions(theirs))
                                 for at, piece in enumerate((one, other))))
            told = cone_rows(found)
            if told is not None:
                self.assertEqual((rays_for(found), walls_for(found)), told)
            self.assertEqual(rays_for(joined(other, one)), rays_for(found))

    def test_in_frames(self):
        draw = random.Random(296)
        tried = 0
        for piece in listed_pieces(2, 296, (2, 3)):
            turned = [other for other in (self.opened_or_none(piece), trimmed(piece)) if other is not None]
            frame = any_frame(draw, piece.keeper_hands, piece.rival_hands)
            games = games_of(frame, piece, *turned)
            if games is not None:
                tried += 1
                self.assertEqual(len({worth(game, [1], [1]).number for game in games}), 1)
        self.assertGreater(tried, 20)

    def test_wrong_values(self):
        for value in NO_PIECES:
            for function in (opened, trimmed):
                check_raises(self, BadPiece("piece"), function, value)
            check_raises(self, BadPiece("piece"), scaled, value, None)
            check_raises(self, BadPiece("one"), joined, value, None)
            check_raises(self, BadPiece("other"), joined, ONE, value)
        for value in (None, -1, (-1, 2), True, False, (2, 4), 0.5, "1", [1], (1, 1), [[1]]):
            check_raises(self, BadNumber("number"), scaled, BLUFF, value)
        for other in (End([[1, 1]]), End([[1], [1]]), End([[0] * 8] * 8)):
            check_raises(self, Misfit("other"), joined, ONE, other)
            check_raises(self, Misfit("other"), joined, chain(ONE, 9), other)
        self.assertEqual(joined(other=TWO, one=ONE), joined(ONE, TWO))
        self.assertEqual((opened(piece=ONE), trimmed(piece=ONE), scaled(number=2, piece=ONE)), (ONE, ONE, TWO))
        self.assertEqual(joined(wide(60), wide(59)).many, 120)
        check_raises(self, TooMany("places", 120), joined, wide(60), wide(60))
        check_raises(self, TooMany("levels", 10), joined, chain(ONE, 9), ONE)
        check_raises(self, TooMany("places", 120), joined, chain(ONE, 9), chain(wide(110), 6))

    def test_what_is_passed_stays(self):
        piece = Draw([[1, 2], 1], [KeeperMove([ONE, TWO]), RivalMove([TWO, ONE])])
        before = str(piece)
        found = opened(piece), trimmed(piece), scaled(piece, [1, 2]), joined(piece, piece)
        self.assertEqual(str(piece), before)
        kept = [str(place) for place in found]
        self.assertEqual(kept[3], f"draw 2 1 1 {before} {before}")
        self.assertEqual([str(place) for place in (opened(piece), trimmed(piece), scaled(piece, (1, 2)))], kept[:3])


if __name__ == "__main__":
    unittest.main()
