"""Runs the examples of each module that the document prints, in their order."""

import unittest

from examples import run_examples

from planless import (
    answers, books, check_cones, check_programs, cones, errors, frames, judges, mirrors, numbers, piece_texts, pieces,
    players, programs, splits, worths)

PROGRAMS = """
>>> pair = Program([2, 3], [([1, 1], "least", 4), ([1, -1], "just", 0)])
>>> [str(pair), pair.conditions[1], solved(pair).parts, bool(solved(pair))]
['2 3 / 1 1 least 4 / 1 -1 just 0', ((1, -1), 'just', 0), (10, (2, 2), ((5, 2), (-1, 2))), True]
>>> narrow = Program([1], [([1], "least", 3), ([-1], "least", -2)])
>>> [bool(solved(narrow)), solved(narrow).word, solved(Program([1, 2], [])).parts, solved(Program([1, -1], [])).word]
[False, 'nopoint', (0, (0, 0), ()), 'unbounded']
>>> Program.read("2 1/2 / 1 1 least -4") == Program((2, (1, 2)), [[(1, 1), "least", -4]])
True
>>> Program.read("2 / 1 most 3")
raises BadText(0, 3)
>>> Program.read("2 3 / 1 least 4")
raises BadText(0, 4)
>>> Program([1], [([1, 2], "least", 0)])
raises BadProgram('conditions')
"""
CHECK_PROGRAMS = """
>>> [shows_solved(pair, value) for value in (solved(pair), Best(10, [2, 2], [(5, 2), (-1, 2)]), Best(10, (2, 2), (2, 0)), Best(11, (2, 2), ((5, 2), (-1, 2))), None)]
[True, True, False, False, False]
>>> [shows_solved(narrow, NoPoint(multipliers)) for multipliers in ([1, 1], [(2, 3), (5, 7)], [2, 1], [1, 2], [-1, -1], [1])]
[True, True, False, False, False, False]
>>> free = Program([-1, 0], [([1, -1], "just", 0)])
>>> [shows_solved(free, Unbounded(point, way)) for point, way in (((0, 0), (1, 1)), ((5, 5), ((1, 2), (1, 2))), ((0, 0), (1, 0)), ((1, 0), (1, 1)), ((0, 0), (0, 0)))]
[True, True, False, False, False]
"""
PIECES = """
>>> guess = RivalMove([End([[1], [-1]]), End([[-1], [1]])])
>>> hide = KeeperHides([2], guess)
>>> [hide.keeper_hands, hide.rival_hands, guess.keeper_hands, hide.many, hide.levels, hide.counts, len(hide.parts), guess.parts[0].table]
[1, 1, 2, 4, 3, (2,), 1, ((1,), (-1,))]
>>> [ways(hide), place_at(hide, [0, 1]) == guess.parts[1], choosing_ways(hide, "keeper"), choosing_ways(hide, "rival")]
[((), (0,), (0, 0), (0, 1)), True, ((),), ((0,),)]
>>> shown = KeeperShows([[0, 2], [1]], [End([[1], [2]]), End([[5]])])
>>> [shown.keeper_hands, shown.lots, is_piece(shown), is_piece(Hole(1, 1)), is_frame(Hole(1, 1)), is_piece(None)]
[3, ((0, 2), (1,)), True, False, True, False]
>>> [KeeperMove([Hole(1, 2)]) == RivalMove([Hole(1, 2)]), Draw([(1, 2), 0], [Hole(1, 2), End([[0, 4]])]) == Draw(((1, 2), 0), (Hole(1, 2), End(((0, 4),))))]
[False, True]
>>> KeeperMove([End([[1]]), End([[1, 2]])])
raises Misfit('parts')
>>> KeeperHides([2], End([[1]]))
raises Misfit('part')
>>> KeeperShows([[1], [0]], [End([[1]]), End([[2]])])
raises BadNumber('lots')
>>> place_at(hide, (0, 2))
raises NoWay((0, 2))
"""
PIECE_TEXTS = """
>>> [str(hide), str(shown), str(RivalSees([[(1, 2), (1, 2)], [1]], Hole(1, 3)))]
['keeper-hides 1 2 rival-move 2 end 2 1 1 -1 end 2 1 -1 1', 'keeper-shows 3 0 1 0 end 2 1 1 2 end 1 1 5', 'rival-sees 2 2 1/2 1/2 1 1 hole 1 3']
>>> [read(str(hide)) == hide, read("draw 2 1 0 hole 1 1 hole 1 1").weights]
[True, (1, 0)]
>>> read("keeper-shows 2 1 0 end 1 1 5 end 1 1 5")
raises BadText(0, 2)
>>> read("keeper-move 2 end 1 1 5 end 1 2 5 6")
raises BadText(0, 10)
>>> read("keeper-hides 1 2 end 2 1 5")
raises BadText(0, 7)
"""
FRAMES = """
>>> frame, part = cut(hide, [0])
>>> [str(frame), part == guess, hole_ways(frame), filled(frame, part) == hide]
['keeper-hides 1 2 hole 2 1', True, ((0,),), True]
>>> [str(exchanged(hide, (0, 0), End([[4], [0]]))), cut(hide, ())[0] == Hole(1, 1), exchanged(hide, (), End([[7]]))== End([[7]])]
['keeper-hides 1 2 rival-move 2 end 2 1 4 0 end 2 1 -1 1', True, True]
>>> twice = Draw([1, 1], [Hole(1, 1), KeeperMove([End([[0]]), Hole(1, 1)])])
>>> [hole_ways(twice), filled(twice, End([[7]])).many, filled(twice, hide).levels]
[((0,), (1, 1)), 5, 5]
>>> filled(twice, guess)
raises Misfit('piece')
>>> filled(hide, hide)
raises BadFrame('frame')
>>> cut(twice, ())
raises BadPiece('piece')
"""
BOOKS = """
>>> hide = KeeperHides((2,), RivalMove((End(((1,), (-1,))), End(((-1,), (1,))))))
>>> bluff = KeeperSees((((1, 2), (1, 2)),), KeeperMove((End(((-1,), (1,))), RivalMove((End(((-1,), (-1,))), End(((-2,), (2,))))))))
>>> bold = Book(bluff, "keeper", [[[0, 1], [(2, 3), (1, 3)]]])
>>> [bold.chances, bold.row((0,), 1), str(bold), book_read(bluff, str(bold)) == bold]
[(((0, 1), ((2, 3), (1, 3))),), ((2, 3), (1, 3)), 'keeper / 0 1 / 2/3 1/3', True]
>>> [even_book(hide, "keeper").chances, first_book(hide, "rival").chances, str(even_book(End(((2,),)), "rival"))]
[((((1, 2), (1, 2)),),), (((1, 0),),), 'rival']
>>> Book(bluff, "keeper", [[[0, 1], [(2, 3), (2, 3)]]])
raises BadBook('chances')
>>> bold.row((0, 1), 0)
raises NoWay((0, 1))
>>> book_read(bluff, "keeper / 0 1 / 2/3 1/2")
raises BadText(0, 6)
"""
ANSWERS = """
>>> even, first = even_book(hide, "keeper"), first_book(hide, "keeper")
>>> [best_limits(hide, even, (1,)), best_limits(hide, first, (1,)), best_limits(hide, first, [3]), best_answer(hide, first, (1,)).chances]
[(0,), (1,), (3,), (((1, 0),),)]
>>> caller = Book(bluff, "rival", [[[(1, 3), (2, 3)]]])
>>> [best_limits(bluff, bold, (1,)), floors(bluff, caller, (1,)), pay(bluff, bold, caller, (1,), (1,)), pay(bluff, bold, caller, (2,), ((1, 2),))]
[((-1, 3),), ((-1, 3),), (-1, 3), (-1, 3)]
>>> [best_limits(bluff, even_book(bluff, "keeper"), (1,)), best_answer(bluff, even_book(bluff, "keeper"), (1,)).chances, best_answer(bluff, bold, (1,)).chances]
[(0,), (((0, 1),),), (((1, 0),),)]
>>> shapes = RivalHides((3,), KeeperMove((End(((0, 1, -1),)), End(((-1, 0, 1),)), End(((1, -1, 0),)))))
>>> [best_limits(shapes, even_book(shapes, "keeper"), (1,)), best_limits(shapes, first_book(shapes, "keeper"), (1,)), best_answer(shapes, first_book(shapes, "keeper"), (1,)).chances]
[(0,), (1,), (((0, 1, 0),),)]
>>> [floors(shapes, first_book(shapes, "rival"), (1,)), floor_answer(shapes, first_book(shapes, "rival"), (1,)).chances]
[(-1,), (((0, 1, 0),),)]
>>> floors(hide, even, (1,))
raises BadBook('book')
>>> best_limits(hide, even, (1, 0))
raises BadNumber('reach')
"""
MIRRORS = """
>>> mirrored(bluff) == RivalSees((((1, 2), (1, 2)),), RivalMove((End(((1, -1),)), KeeperMove((End(((1, 1),)), End(((2, -2),)))))))
True
>>> other = mirrored_book(caller)
>>> [other.side, other.chances == caller.chances, best_limits(mirrored(bluff), other, (1,)), mirrored(mirrored(shapes)) == shapes]
['keeper', True, ((1, 3),), True]
"""
CONES = """
>>> penny = KeeperHides((2,), RivalMove((End(((1,), (-1,))), End(((-1,), (1,))))))
>>> [bool(holds(penny, [2], [0])), holds(penny, [2], [0]).book.chances, bool(holds(penny, [2], [(-1, 4)])), holds(penny, [2], [(-1, 4)]).rival_reach]
[True, ((((1, 2), (1, 2)),),), False, (1,)]
>>> three = KeeperMove((End(((0, 1, -1),)), End(((-1, 0, 1),)), End(((1, -1, 0),))))
>>> [holds(three, [1], [0, 0, 0]).book.chances, bool(holds(three, [1], [1, 1, -1])), bool(holds(three, [1], [1, 0, -1])), bool(holds(three, (0,), (0, 0, 7)))]
[((((1, 3), (1, 3), (1, 3)),),), True, False, True]
>>> best_limits(three, holds(three, [1], [1, -1, 0]).book, [1])
(1, -1, 0)
>>> holds(three, [1], [0, 0])
raises BadNumber('limits')
"""
WORTHS = """
>>> [worth(penny, [1], [1]).number, worth(three, [1], [1, 1, 1]).number, worth(three, [1], [1, 0, 0]).number, worth(three, [2], [(1, 2), (1, 2), 0]).number, worth(three, [0], [5, 5, 5]).number]
[0, 0, -1, -1, 0]
>>> bluff = KeeperSees((((1, 2), (1, 2)),), KeeperMove((End(((-1,), (1,))), RivalMove((End(((-1,), (-1,))), End(((-2,), (2,))))))))
>>> told = worth(bluff, [1], [1])
>>> [told.number, told.book.chances, told.rival_book.chances]
[(-1, 3), (((0, 1), ((2, 3), (1, 3))),), ((((1, 3), (2, 3)),),)]
>>> best_limits(bluff, told.book, [1])
((-1, 3),)
>>> worth(bluff, [1], [-1])
raises BadNumber('rival_reach')
"""
CHECK_CONES = """
>>> even = Book(three, "keeper", ((((1, 3), (1, 3), (1, 3)),),))
>>> [shows_holds(three, [1], [0, 0, 0], Held(even)), shows_holds(three, [1], [0, 1, -1], Held(even)), shows_holds(three, [1], [0, 1, -1], holds(three, [1], [0, 1, -1])), shows_holds(three, [1], [0, 0, 0], even)]
[True, False, True, False]
>>> idle = Book(three, "rival", ())
>>> [shows_holds(three, [1], [0, 0, -1], Broken((0, 0, 1), idle)), shows_holds(three, [1], [0, 0, -1], Broken([(1, 3), (1, 3), (1, 3)], idle)), shows_holds(three, [1], [0, 0, -1], Broken((1, 1, 1), idle))]
[False, True, False]
>>> [shows_worth(three, [1], [1, 1, 1], Worth(0, even, idle)), shows_worth(three, [1], [1, 1, 1], Worth(1, even, idle)), shows_worth(three, [1], [2, 1, 1], Worth(0, even, idle))]
[True, False, False]
"""
SPLITS = """
>>> guess = KeeperHides((2,), RivalMove((End(((1,), (-1,))), End(((-1,), (1,))))))
>>> [split(guess, (1,), (0,)), split(End(((2,),)), (1,), (2,))]
[((((1, 2), (1, 2)), (0,)),), ()]
>>> throw = KeeperMove((End(((0, 1, -1),)), End(((-1, 0, 1),)), End(((1, -1, 0),))))
>>> thirds = [(((1, 3),), (0, (1, 3), (-1, 3))), (((1, 3),), ((-1, 3), 0, (1, 3))), (((1, 3),), ((1, 3), (-1, 3), 0))]
>>> [fits_split(throw, (1,), (0, 0, 0), value) for value in (thirds, thirds[:2], [((1,), (0, 1, -1)), ((0,), (0, 0, 0)), ((0,), (0, 0, 0))])]
[True, False, False]
>>> [fits_split(throw, (1,), (0, 1, -1), [((1,), (0, 1, -1)), ((0,), (0, 0, 0)), ((0,), (0, 0, 0))]), fits_split(throw, (1,), (0, 0, -1), thirds)]
[True, False]
>>> split(throw, (1, 0), (0, 0, 0))
raises BadNumber('reach')
"""
PLAYERS = """
>>> player = Player(guess, (1,), (0,))
>>> [player.chances(), player.goes(0), player.chances(), player.reach, player.limits, player.way, player.over, str(player)]
[(((1, 2), (1, 2)),), None, (), ((1, 2), (1, 2)), (0,), (0,), False, '0 / 1/2 1/2 / 0']
>>> other = taken_up(guess, "0 / 1/2 1/2 / 0")
>>> [other == player, other.goes(1), other.way, other.over, other.chances(), other == player]
[True, None, (0, 1), True, (), False]
>>> bluff = KeeperSees((((1, 2), (1, 2)),), KeeperMove((End(((-1,), (1,))), RivalMove((End(((-1,), (-1,))), End(((-2,), (2,))))))))
>>> seer = Player(bluff, (1,), ((-1, 3),))
>>> [seer.goes(0), seer.chances(), seer.goes(1), str(seer)]
[None, ((0, 1), ((2, 3), (1, 3))), None, '0 1 / 1/2 1/6 / -2/3']
>>> book = played_book(bluff, (1,), ((-1, 3),))
>>> [book.chances, best_limits(bluff, book, (1,))]
[(((0, 1), ((2, 3), (1, 3))),), ((-1, 3),)]
>>> player.goes(2)
raises NoPart(2)
>>> taken_up(guess, "0 2 / 1 / 0")
raises BadText(0, 1)
>>> taken_up(guess, "0 / 1/2 -1/2 / 0")
raises BadText(0, 3)
"""
JUDGES = """
>>> raised = RivalMove((End(((-1,), (-1,))), End(((-2,), (2,)))))
>>> bluff = KeeperSees((((1, 2), (1, 2)),), KeeperMove((End(((-1,), (1,))), raised)))
>>> good, bold = Book(bluff, "keeper", (((0, 1), ((2, 3), (1, 3))),)), Book(bluff, "keeper", (((0, 1), (0, 1)),))
>>> told = judged(bluff, good)
>>> [told.word, told.limits, told.rival_book.chances]
['unbeaten', (((-1, 3),), ((-1, 3),), ((1, 3),), ((-2, 3),), ((-2, 3),), ((-2, 3),)), ((((1, 3), (2, 3)),),)]
>>> told = judged(bluff, bold)
>>> [told.word, bool(told), is_less(best_limits(bluff, told.book, (1,))[0], pay(bluff, bold, told.rival_book, (1,), (1,)))]
['beaten', False, True]
>>> rows = [[(-1, 3)], [(-1, 3)], [(1, 3)], [(-2, 3)], [(-2, 3)], [(-2, 3)]]
>>> [fits(bluff, good, (1,), rows), fits(bluff, good, (1,), [[0]] + rows[1:]), fits(bluff, good, (1,), rows[:5] + [[-1]]), fits(bluff, bold, (1,), rows), fits(bluff, good, (1,), None)]
[True, True, False, False, False]
"""
# A name stands for what the module under whose heading it is printed has, not for what that module imports.
MODULES = (numbers, programs, check_programs, pieces, piece_texts, frames, books, answers, mirrors, cones, worths,
           check_cones, splits, players, judges, errors)
SECTIONS = (PROGRAMS, CHECK_PROGRAMS, PIECES, PIECE_TEXTS, FRAMES, BOOKS, ANSWERS, MIRRORS, CONES, WORTHS, CHECK_CONES,
            SPLITS, PLAYERS, JUDGES)


def own_names(module):
    """Return what the module itself defines."""
    return {name: value for name, value in vars(module).items()
            if getattr(value, "__module__", None) == module.__name__}


class PrintedTest(unittest.TestCase):
    def test_examples(self):
        names = {}
        for module in MODULES:
            names.update(own_names(module))
        for section in SECTIONS:
            run_examples(self, section, names)

    def test_interface(self):
        wanted = {
            programs: "Program Best NoPoint Unbounded solved",
            check_programs: "shows_solved",
            pieces: "End KeeperMove RivalMove Draw KeeperHides RivalHides KeeperSees RivalSees KeeperShows RivalShows "
                    "Hole is_piece is_frame ways place_at choosing_ways",
            piece_texts: "read",
            frames: "hole_ways filled cut exchanged",
            books: "Book even_book first_book book_read",
            answers: "pay best_limits best_answer floors floor_answer",
            mirrors: "mirrored mirrored_book",
            cones: "Held Broken holds",
            worths: "Worth worth",
            check_cones: "shows_holds shows_worth",
            splits: "split fits_split",
            players: "Player taken_up played_book",
            judges: "Unbeaten Beaten judged fits",
        }
        for module, names in wanted.items():
            self.assertLessEqual(set(names.split()), set(own_names(module)))
        for name in ["Program", *wanted[pieces].split()[:11]]:
            made = getattr(programs if name == "Program" else pieces, name)
            self.assertLessEqual({"__init__", "__eq__", "__str__"}, set(vars(made)))
        self.assertIn("read", vars(programs.Program))
        self.assertLessEqual({"__init__", "__eq__", "__str__", "row"}, set(vars(books.Book)))
        self.assertLessEqual({"__init__", "__eq__", "__str__", "chances", "goes"}, set(vars(players.Player)))


if __name__ == "__main__":
    unittest.main()
