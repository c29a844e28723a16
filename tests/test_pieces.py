import unittest
from itertools import product

from examples import check_raises
from trees import GUESS, HIDE, KINDS, chain, some_places, wide

from planless.errors import BadNumber, BadPiece, Misfit, TooMany
from planless.pieces import (
    Draw, End, Hole, KeeperHides, KeeperMove, KeeperSees, KeeperShows, RivalHides, RivalMove, RivalSees, RivalShows)

STRANGE = [None, True, False, 0.5, "", "1", "1 2", b"1", {}, {1: 2}, {1}, range(2), object(), iter([1])]
NO_NUMBERS = [None, True, False, "1", "", 0.5, (2, 4), (3, 1), (0, 5), (1, -2), (1,), (), [1, 2, 3], (1, True), {1: 2}]
ONE = End([[5]])
NO_PLACES = [*STRANGE, 1, (), [], "end 1 1 5", End, [ONE], (ONE,)]
# For each side the kind, and how a hole is made that has so many hands of this side, and of the other one.
HIDES = [(KeeperHides, lambda mine, other: Hole(mine, other)), (RivalHides, lambda mine, other: Hole(other, mine))]
SEES = [(KeeperSees, HIDES[0][1]), (RivalSees, HIDES[1][1])]
SHOWS = [(KeeperShows, HIDES[0][1]), (RivalShows, HIDES[1][1])]
MOVES = [KeeperMove, RivalMove]


class AttributesTest(unittest.TestCase):
    def has(self, place, keeper, rival, many, levels, parts):
        self.assertEqual((place.keeper_hands, place.rival_hands, place.many, place.levels),
                         (keeper, rival, many, levels))
        self.assertIsInstance(place.parts, tuple)
        self.assertEqual(len(place.parts), len(parts))
        for here, there in zip(place.parts, parts):
            self.assertIs(here, there)

    def test_ends_and_holes(self):
        end = End([[1, [1, 2], 0], (3, (-1, 2), 4)])
        self.has(end, 2, 3, 1, 1, ())
        self.assertEqual(repr(end.table), "((1, (1, 2), 0), (3, (-1, 2), 4))")
        self.has(End([[0] * 8] * 8), 8, 8, 1, 1, ())
        # The table tells whether a pair is one number or a row of two.
        self.has(End([(1, 2)]), 1, 2, 1, 1, ())
        self.has(End([[(1, 2)]]), 1, 1, 1, 1, ())
        self.has(End(table=((1,), (2,))), 2, 1, 1, 1, ())
        for keeper, rival in product((1, 2, 8), repeat=2):
            self.has(Hole(keeper, rival), keeper, rival, 1, 1, ())
            self.has(Hole(rival_hands=rival, keeper_hands=keeper), keeper, rival, 1, 1, ())

    def test_moves_and_draws(self):
        for made in MOVES:
            parts = [Hole(2, 3), End([[0] * 3] * 2), chain(Hole(2, 3), 2)]
            self.has(made(parts), 2, 3, 6, 4, parts)
            self.has(made(parts=tuple(parts)), 2, 3, 6, 4, parts)
            self.has(made([ONE] * 6), 1, 1, 7, 2, [ONE] * 6)
            self.has(made([ONE]), 1, 1, 2, 2, [ONE])
        draw = Draw([[1, 2], 0], [GUESS, GUESS])
        self.has(draw, 2, 1, 7, 3, [GUESS, GUESS])
        self.assertEqual(repr(draw.weights), "((1, 2), 0)")
        self.has(Draw((1, 2), [ONE, ONE]), 1, 1, 3, 2, [ONE, ONE])
        self.has(Draw(parts=[ONE], weights=[0]), 1, 1, 2, 2, [ONE])
        self.has(Draw([0] * 6, [ONE] * 6), 1, 1, 7, 2, [ONE] * 6)

    def test_hides_and_sees(self):
        for at, (made, hole) in enumerate(HIDES):
            part = hole(7, 3)
            place = made([1, 4, 2], part)
            self.has(place, 3, 3, 2, 2, [part])
            self.assertEqual(repr(place.counts), "(1, 4, 2)")
            part = hole(8, 5)
            self.has(made(part=part, counts=(4, 4)), *((2, 5) if at == 0 else (5, 2)), 2, 2, [part])
            self.has(made([1] * 8, part), *((8, 5) if at == 0 else (5, 8)), 2, 2, [part])
        for at, (made, hole) in enumerate(SEES):
            part = hole(4, 6)
            place = made([[0, [1, 2], 3], (2,)], part)
            self.has(place, *((2, 6) if at == 0 else (6, 2)), 2, 2, [part])
            self.assertEqual(repr(place.weights), "((0, (1, 2), 3), (2,))")
            part = hole(8, 1)
            self.has(made([[0] * 8], part), 1, 1, 2, 2, [part])
            self.has(made(part=part, weights=[[1]] * 8), *((8, 1) if at == 0 else (1, 8)), 2, 2, [part])
            # A pair as a row is two weights.
            part = hole(2, 1)
            self.has(made([(1, 2)], part), 1, 1, 2, 2, [part])

    def test_shows(self):
        for at, (made, hole) in enumerate(SHOWS):
            parts = [hole(2, 3), hole(1, 3)]
            place = made([[0, 2], (1,)], parts)
            self.has(place, 3, 3, 3, 2, parts)
            self.assertEqual(repr(place.lots), "((0, 2), (1,))")
            parts = [hole(8, 3)]
            self.has(made(parts=parts, lots=[list(range(8))]), *((8, 3) if at == 0 else (3, 8)), 2, 2, parts)
            parts = [hole(1, 2)] * 5 + [hole(3, 2)]
            self.has(made([[0], [1], [2], [3], [4], [5, 6, 7]], parts), *((8, 2) if at == 0 else (2, 8)), 7, 2, parts)

    def test_equal(self):
        places = [place for place, _ in KINDS] + some_places(60, holes=((1, 1), (2, 2)))
        for at, one in enumerate(places):
            for to, other in enumerate(places):
                self.assertIs(one == other, at == to or str(one) == str(other))
                self.assertIs(one != other, not one == other)
            for value in (None, 1, str(one), one.parts, one.__class__):
                self.assertIs(one == value, False)
                self.assertIs(value == one, False)

    def test_equal_by_parameters(self):
        for one, other in (
            (End([[1, 2]]), End([[1], [2]])), (End([[1, 2]]), End([[1, 3]])), (Hole(1, 2), Hole(2, 1)),
            (End([[1]]), Hole(1, 1)), (KeeperMove([ONE]), RivalMove([ONE])), (KeeperMove([ONE]), KeeperMove([ONE, ONE])),
            (Draw([1], [ONE]), Draw([2], [ONE])), (Draw([1], [ONE]), Draw([1], [End([[6]])])),
            (Draw([1], [ONE]), KeeperMove([ONE])),
            (KeeperHides([2, 1], Hole(3, 3)), KeeperHides([1, 2], Hole(3, 3))),
            (KeeperHides([3], Hole(3, 3)), KeeperSees([[1, 1, 1]], Hole(3, 3))),
            (KeeperHides([2, 1], Hole(3, 3)), RivalHides([2, 1], Hole(3, 3))),
            (RivalHides([1, 1, 1], Hole(3, 3)), KeeperHides([1, 1, 1], Hole(3, 3))),
            (KeeperSees([[1], [1]], Hole(2, 2)), RivalSees([[1], [1]], Hole(2, 2))),
            (KeeperSees([[1], [1]], Hole(2, 2)), KeeperSees([[1, 1]], Hole(2, 2))),
            (KeeperShows([[0, 1]], [Hole(2, 2)]), RivalShows([[0, 1]], [Hole(2, 2)])),
            (KeeperShows([[0, 1], [2]], [Hole(2, 2), Hole(1, 2)]), KeeperShows([[0, 2], [1]], [Hole(2, 2), Hole(1, 2)])),
        ):
            self.assertIs(one == other, False)
            self.assertIs(other == one, False)
        self.assertIs(End([[1, [1, 2]]]) == End(((1, (1, 2)),)), True)
        self.assertIs(HIDE == KeeperHides((2,), RivalMove((End([[1], [-1]]), End([[-1], [1]])))), True)

    def test_what_is_passed_is_copied(self):
        row, weights, counts, lot, parts = [1, [1, 2]], [[1, 2], [3]], [2, 1], [0, 2], [Hole(2, 1), Hole(1, 1)]
        table, lots = [row], [lot, [1]]
        places = [End(table), KeeperSees(weights, Hole(3, 1)), RivalHides(counts, Hole(1, 3)), KeeperShows(lots, parts)]
        drawn, parts_of_draw = [1, [1, 2]], [ONE, ONE]
        places += [Draw(drawn, parts_of_draw), KeeperMove(parts_of_draw)]
        texts = [str(place) for place in places]
        self.assertEqual((table, weights, counts, lots, drawn), (
            [[1, [1, 2]]], [[1, 2], [3]], [2, 1], [[0, 2], [1]], [1, [1, 2]]))
        row[1][0] = 7
        row.append(1)
        weights[0][1] = 9
        weights.append([1])
        counts[0] = 1
        lot[1] = 1
        lots.pop()
        parts.pop()
        drawn[1][1] = 5
        parts_of_draw[0] = HIDE
        self.assertEqual([str(place) for place in places], texts)


class RefusedTest(unittest.TestCase):
    def test_hands_of_a_hole(self):
        for value in [*STRANGE, 0, 9, -1, 10 ** 60, (1,), (1, 2), [3, 1]]:
            check_raises(self, BadNumber("keeper_hands"), Hole, value, 1)
            check_raises(self, BadNumber("rival_hands"), Hole, 1, value)
            check_raises(self, BadNumber("keeper_hands"), Hole, value, value)
            check_raises(self, BadNumber("keeper_hands"), Hole, rival_hands=0, keeper_hands=value)

    def test_tables(self):
        tables = [*STRANGE, 1, [], (), [[]], [()], [1], [[1], []], [[], [1]], [[1], [1, 2]], [[1, 2], [1]], [[1]] * 9,
                  [[1] * 9], [[1] * 9] * 9, [[1], None], [[1], 1], [[1], "1"], [1, 2], (1, 2), [[[1]]], "12", ["1"],
                  [range(1)], [{1: 1}], ONE]
        tables += [[[1, value]] for value in NO_NUMBERS] + [[[1], [value]] for value in NO_NUMBERS]
        for table in tables:
            check_raises(self, BadNumber("table"), End, table)

    def test_parts(self):
        for made in MOVES:
            for value in [*NO_PLACES[:-2], ONE, [ONE] * 7, (ONE,) * 7, [[ONE]], *[[ONE, bad] for bad in NO_PLACES]]:
                check_raises(self, BadPiece("parts"), made, value)
                check_raises(self, BadPiece("parts"), made, parts=value)
        for value in [*NO_PLACES[:-2], ONE, [ONE] * 7, [ONE, None], ["end 1 1 5"]]:
            check_raises(self, BadPiece("parts"), Draw, [1], value)
            for made, _ in SHOWS:
                check_raises(self, BadPiece("parts"), made, [[0]], value)

    def test_part(self):
        for value in NO_PLACES:
            for made, _ in HIDES:
                check_raises(self, BadPiece("part"), made, [1], value)
                check_raises(self, BadPiece("part"), made, [4] * 8, value)
            for made, _ in SEES:
                check_raises(self, BadPiece("part"), made, [[1]], value)
                check_raises(self, BadPiece("part"), made, [[1] * 8] * 8, value)

    def test_weights_of_a_draw(self):
        for value in [*STRANGE, 1, [], (), [1] * 7, [-1], [(-1, 2)], [1, -1], [[1, 1]], [[1]], *[
                [1, bad] for bad in NO_NUMBERS], (2, "1")]:
            check_raises(self, BadNumber("weights"), Draw, value, [ONE])
            check_raises(self, BadNumber("weights"), Draw, value, None)
            check_raises(self, BadNumber("weights"), Draw, parts=[ONE, GUESS], weights=value)

    def test_weights_that_are_seen(self):
        bad = [*STRANGE, 1, [], (), [[]], [[1], []], [1], (1, 2), [[1], 1], [[1]] * 9, [[1] * 9], [[-1]],
               [[1], [(-1, 2)]], [[1], None], [[1], "1"], ["1"], [[[1]]], *[[[1, value]] for value in NO_NUMBERS]]
        for made, hole in SEES:
            for value in bad:
                check_raises(self, BadNumber("weights"), made, value, hole(1, 1))
                check_raises(self, BadNumber("weights"), made, value, None)

    def test_counts(self):
        bad = [*STRANGE, 1, [], (), [0], [5], [-1], [1, 0], [4, 5], [1] * 9, [True], [1, None], [1, "1"], [(1, 2)],
               [[1]], [1.0], [10 ** 60], "1"]
        for made, hole in HIDES:
            for value in bad:
                check_raises(self, BadNumber("counts"), made, value, hole(1, 1))
                check_raises(self, BadNumber("counts"), made, part=None, counts=value)
            for count in (1, 4):
                self.assertEqual(made([count], hole(count, 1)).counts, (count,))

    def test_lots(self):
        bad = [*STRANGE, 1, [], (), [[]], [[0], []], [[], [0]], [0], [[0], 1], [[0], None], [[1]], [[1], [0]],
               [[0], [2], [1]], [[1, 2], [0]], [[0, 1], [1]], [[0, 0]], [[1, 0]], [[0, 2], [2, 1]], [[0], [2]],
               [[0, 3], [1]], [[-1, 0]], [[-1], [0]], [[True]], [[False]], [[False], [True]], [[0, True]], [["0"]],
               [[0], "1"], [[(1, 2)]], [[0, 1, 2, 3, 4, 5, 6, 7, 8]], [[0], [1], [2], [3], [4], [5], [6]],
               [[0, 1, 2, 3], [4, 5, 6, 7, 8]], [range(2)], [[0.0]], (0, 1), "0"]
        for made, hole in SHOWS:
            for value in bad:
                check_raises(self, BadNumber("lots"), made, value, [hole(1, 1)])
                check_raises(self, BadNumber("lots"), made, value, None)
                check_raises(self, BadNumber("lots"), made, parts=[ONE, GUESS], lots=value)

    def test_parts_that_do_not_fit(self):
        for parts in ([ONE, Hole(1, 2)], [ONE, Hole(2, 1)], [ONE, ONE, GUESS], [GUESS, ONE], [Hole(1, 2), Hole(2, 1)]):
            for made in MOVES:
                check_raises(self, Misfit("parts"), made, parts)
                check_raises(self, Misfit("parts"), made, tuple(parts))
            check_raises(self, Misfit("parts"), Draw, [1] * len(parts), parts)
            check_raises(self, Misfit("parts"), Draw, [1], parts)
        for weights, parts in (([1], [ONE, ONE]), ([1, 1], [ONE]), ([0] * 6, [ONE] * 5), ([0] * 5, [ONE] * 6)):
            check_raises(self, Misfit("parts"), Draw, weights, parts)

    def test_hands_that_do_not_fit(self):
        for made, hole in HIDES:
            for counts, mine in (([2], 1), ([2], 3), ([1, 2], 2), ([1, 2], 4), ([4, 4], 7), ([4, 4, 1], 8), ([4] * 8, 8)):
                check_raises(self, Misfit("part"), made, counts, hole(mine, 3))
            self.assertEqual(made([1, 2], hole(3, 8)).parts, (hole(3, 8),))
        for made, hole in SEES:
            for weights, mine in (([[1, 0]], 1), ([[1]], 2), ([[1], [1]], 1), ([[1] * 8, [1]], 8), ([[1] * 8] * 8, 8)):
                check_raises(self, Misfit("part"), made, weights, hole(mine, 2))
        for made, hole in SHOWS:
            for lots, sizes in (
                ([[0, 1]], [(1, 1)]), ([[0, 1]], [(3, 1)]), ([[0]], [(1, 1), (1, 1)]), ([[0], [1]], [(1, 1)]),
                ([[0], [1, 2]], [(2, 1), (1, 1)]), ([[0], [1]], [(1, 1), (1, 2)]), ([[0], [1]], [(1, 2), (1, 1)]),
                ([[0], [1]], [(2, 1), (2, 1)]),
            ):
                check_raises(self, Misfit("parts"), made, lots, [hole(*size) for size in sizes])

    def test_a_hundred_and_twenty_places(self):
        for many in (1, 2, 20, 119, 120):
            self.assertEqual(wide(many).many, many)
        full, rest = wide(119), wide(120)
        for made in MOVES:
            self.assertEqual(made([full]).many, 120)
            self.assertEqual(made([wide(60), wide(59)]).many, 120)
            check_raises(self, TooMany("places", 120), made, [wide(60), wide(60)])
        for build in (lambda part: KeeperMove([part]), lambda part: RivalMove([part]), lambda part: Draw([1], [part]),
                      lambda part: KeeperHides([1], part), lambda part: RivalHides([1], part),
                      lambda part: KeeperSees([[1]], part), lambda part: RivalSees([[1]], part),
                      lambda part: KeeperShows([[0]], [part]), lambda part: RivalShows([[0]], [part])):
            self.assertEqual(build(full).many, 120)
            check_raises(self, TooMany("places", 120), build, rest)
            self.assertEqual(build(chain(ONE, 8)).levels, 10)
            check_raises(self, TooMany("levels", 10), build, chain(ONE, 9))
            # Both at once: places come first.
            deep = chain(KeeperMove([chain(ONE, 1), *[KeeperMove([ONE] * 6)] * 5]), 7)
            self.assertEqual(deep.levels, 10)
            check_raises(self, TooMany("levels", 10), build, deep)
            great = KeeperMove([deep.parts[0], wide(120 - deep.parts[0].many - 1)])
            self.assertEqual((great.many, great.levels), (120, 10))
            check_raises(self, TooMany("places", 120), build, great)

    def test_what_does_not_fit_is_told_ahead_of_too_many(self):
        for part in (wide(120), chain(ONE, 9)):
            check_raises(self, Misfit("parts"), KeeperMove, [part, GUESS])
            check_raises(self, Misfit("parts"), RivalMove, [part, GUESS])
            check_raises(self, Misfit("parts"), Draw, [1, 1], [part])
            check_raises(self, Misfit("part"), KeeperHides, [2], part)
            check_raises(self, Misfit("part"), RivalHides, [2], part)
            check_raises(self, Misfit("part"), KeeperSees, [[1, 1]], part)
            check_raises(self, Misfit("part"), RivalSees, [[1, 1]], part)
            check_raises(self, Misfit("parts"), KeeperShows, [[0, 1]], [part])
            check_raises(self, Misfit("parts"), RivalShows, [[0, 1]], [part])
            check_raises(self, BadPiece("parts"), KeeperMove, [part, None])
            check_raises(self, BadNumber("counts"), KeeperHides, [5], part)


if __name__ == "__main__":
    unittest.main()
