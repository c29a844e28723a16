"""Runs the examples of each module that the document prints, in their order."""

import unittest

from examples import run_examples

from planless import (
    answers, books, check_compared, check_cones, check_judges, check_naive, check_programs, compared, cones, errors,
    facets, frames, judges, lists, matches, mirrors, naive, numbers, piece_texts, pieces, players, prices, programs,
    splits, turnings, worths)

PROGRAMS = """
>>> pair = Program([2, 3], [([1, 1], "least", 4), ([1, -1], "just", 0)])
>>> [str(pair), pair.conditions[1], solved(pair).parts, bool(solved(pair))]
['2 3 / 1 1 least 4 / 1 -1 just 0', ((1, -1), 'just', 0), (10, (2, 2), ((5, 2), (-1, 2))), True]
>>> narrow = Program([1], [([1], "least", 3), ([-1], "least", -2)])
>>> [bool(solved(narrow)), solved(narrow).word, solved(Program([1, 2], [])).parts, solved(Program([1, -1], [])).word]
[False, 'nopoint', (0, (0, 0), ()), 'unbounded']
>>> Program.read("2 1/2 / 1 1 least -4") == Program((2, (1, 2)), [[(1, 1), "least", -4]])
True
>>> Program.read("2 / 1 most 3")
raises BadText(0, 3)
>>> Program.read("2 3 / 1 least 4")
raises BadText(0, 4)
>>> Program([1], [([1, 2], "least", 0)])
raises BadProgram('conditions')
"""
CHECK_PROGRAMS = """
>>> [shows_solved(pair, value) for value in (solved(pair), Best(10, [2, 2], [(5, 2), (-1, 2)]), Best(10, (2, 2), (2, 0)), Best(11, (2, 2), ((5, 2), (-1, 2))), None)]
[True, True, False, False, False]
>>> [shows_solved(narrow, NoPoint(multipliers)) for multipliers in ([1, 1], [(2, 3), (5, 7)], [2, 1], [1, 2], [-1, -1], [1])]
[True, True, False, False, False, False]
>>> free = Program([-1, 0], [([1, -1], "just", 0)])
>>> [shows_solved(free, Unbounded(point, way)) for point, way in (((0, 0), (1, 1)), ((5, 5), ((1, 2), (1, 2))), ((0, 0), (1, 0)), ((1, 0), (1, 1)), ((0, 0), (0, 0)))]
[True, True, False, False, False]
"""
PIECES = """
>>> guess = RivalMove([End([[1], [-1]]), End([[-1], [1]])])
>>> hide = KeeperHides([2], guess)
>>> [hide.keeper_hands, hide.rival_hands, guess.keeper_hands, hide.many, hide.levels, hide.counts, len(hide.parts), guess.parts[0].table]
[1, 1, 2, 4, 3, (2,), 1, ((1,), (-1,))]
>>> [ways(hide), place_at(hide, [0, 1]) == guess.parts[1], choosing_ways(hide, "keeper"), choosing_ways(hide, "rival")]
[((), (0,), (0, 0), (0, 1)), True, ((),), ((0,),)]
>>> shown = KeeperShows([[0, 2], [1]], [End([[1], [2]]), End([[5]])])
>>> [shown.keeper_hands, shown.lots, is_piece(shown), is_piece(Hole(1, 1)), is_frame(Hole(1, 1)), is_piece(None)]
[3, ((0, 2), (1,)), True, False, True, False]
>>> [KeeperMove([Hole(1, 2)]) == RivalMove([Hole(1, 2)]), Draw([(1, 2), 0], [Hole(1, 2), End([[0, 4]])]) == Draw(((1, 2), 0), (Hole(1, 2), End(((0, 4),))))]
[False, True]
>>> KeeperMove([End([[1]]), End([[1, 2]])])
raises Misfit('parts')
>>> KeeperHides([2], End([[1]]))
raises Misfit('part')
>>> KeeperShows([[1], [0]], [End([[1]]), End([[2]])])
raises BadNumber('lots')
>>> place_at(hide, (0, 2))
raises NoWay((0, 2))
"""
PIECE_TEXTS = """
>>> [str(hide), str(shown), str(RivalSees([[(1, 2), (1, 2)], [1]], Hole(1, 3)))]
['keeper-hides 1 2 rival-move 2 end 2 1 1 -1 end 2 1 -1 1', 'keeper-shows 3 0 1 0 end 2 1 1 2 end 1 1 5', 'rival-sees 2 2 1/2 1/2 1 1 hole 1 3']
>>> [read(str(hide)) == hide, read("draw 2 1 0 hole 1 1 hole 1 1").weights]
[True, (1, 0)]
>>> read("keeper-shows 2 1 0 end 1 1 5 end 1 1 5")
raises BadText(0, 2)
>>> read("keeper-move 2 end 1 1 5 end 1 2 5 6")
raises BadText(0, 10)
>>> read("keeper-hides 1 2 end 2 1 5")
raises BadText(0, 7)
"""
FRAMES = """
>>> frame, part = cut(hide, [0])
>>> [str(frame), part == guess, hole_ways(frame), filled(frame, part) == hide]
['keeper-hides 1 2 hole 2 1', True, ((0,),), True]
>>> [str(exchanged(hide, (0, 0), End([[4], [0]]))), cut(hide, ())[0] == Hole(1, 1), exchanged(hide, (), End([[7]]))== End([[7]])]
['keeper-hides 1 2 rival-move 2 end 2 1 4 0 end 2 1 -1 1', True, True]
>>> twice = Draw([1, 1], [Hole(1, 1), KeeperMove([End([[0]]), Hole(1, 1)])])
>>> [hole_ways(twice), filled(twice, End([[7]])).many, filled(twice, hide).levels]
[((0,), (1, 1)), 5, 5]
>>> filled(twice, guess)
raises Misfit('piece')
>>> filled(hide, hide)
raises BadFrame('frame')
>>> cut(twice, ())
raises BadPiece('piece')
"""
BOOKS = """
>>> hide = KeeperHides((2,), RivalMove((End(((1,), (-1,))), End(((-1,), (1,))))))
>>> bluff = KeeperSees((((1, 2), (1, 2)),), KeeperMove((End(((-1,), (1,))), RivalMove((End(((-1,), (-1,))), End(((-2,), (2,))))))))
>>> bold = Book(bluff, "keeper", [[[0, 1], [(2, 3), (1, 3)]]])
>>> [bold.chances, bold.row((0,), 1), str(bold), book_read(bluff, str(bold)) == bold]
[(((0, 1), ((2, 3), (1, 3))),), ((2, 3), (1, 3)), 'keeper / 0 1 / 2/3 1/3', True]
>>> [even_book(hide, "keeper").chances, first_book(hide, "rival").chances, str(even_book(End(((2,),)), "rival"))]
[((((1, 2), (1, 2)),),), (((1, 0),),), 'rival']
>>> Book(bluff, "keeper", [[[0, 1], [(2, 3), (2, 3)]]])
raises BadBook('chances')
>>> bold.row((0, 1), 0)
raises NoWay((0, 1))
>>> book_read(bluff, "keeper / 0 1 / 2/3 1/2")
raises BadText(0, 6)
"""
ANSWERS = """
>>> even, first = even_book(hide, "keeper"), first_book(hide, "keeper")
>>> [best_limits(hide, even, (1,)), best_limits(hide, first, (1,)), best_limits(hide, first, [3]), best_answer(hide, first, (1,)).chances]
[(0,), (1,), (3,), (((1, 0),),)]
>>> caller = Book(bluff, "rival", [[[(1, 3), (2, 3)]]])
>>> [best_limits(bluff, bold, (1,)), floors(bluff, caller, (1,)), pay(bluff, bold, caller, (1,), (1,)), pay(bluff, bold, caller, (2,), ((1, 2),))]
[((-1, 3),), ((-1, 3),), (-1, 3), (-1, 3)]
>>> [best_limits(bluff, even_book(bluff, "keeper"), (1,)), best_answer(bluff, even_book(bluff, "keeper"), (1,)).chances, best_answer(bluff, bold, (1,)).chances]
[(0,), (((0, 1),),), (((1, 0),),)]
>>> shapes = RivalHides((3,), KeeperMove((End(((0, 1, -1),)), End(((-1, 0, 1),)), End(((1, -1, 0),)))))
>>> [best_limits(shapes, even_book(shapes, "keeper"), (1,)), best_limits(shapes, first_book(shapes, "keeper"), (1,)), best_answer(shapes, first_book(shapes, "keeper"), (1,)).chances]
[(0,), (1,), (((0, 1, 0),),)]
>>> [floors(shapes, first_book(shapes, "rival"), (1,)), floor_answer(shapes, first_book(shapes, "rival"), (1,)).chances]
[(-1,), (((0, 1, 0),),)]
>>> floors(hide, even, (1,))
raises BadBook('book')
>>> best_limits(hide, even, (1, 0))
raises BadNumber('reach')
"""
MIRRORS = """
>>> mirrored(bluff) == RivalSees((((1, 2), (1, 2)),), RivalMove((End(((1, -1),)), KeeperMove((End(((1, 1),)), End(((2, -2),)))))))
True
>>> other = mirrored_book(caller)
>>> [other.side, other.chances == caller.chances, best_limits(mirrored(bluff), other, (1,)), mirrored(mirrored(shapes)) == shapes]
['keeper', True, ((1, 3),), True]
"""
CONES = """
>>> penny = KeeperHides((2,), RivalMove((End(((1,), (-1,))), End(((-1,), (1,))))))
>>> [bool(holds(penny, [2], [0])), holds(penny, [2], [0]).book.chances, bool(holds(penny, [2], [(-1, 4)])), holds(penny, [2], [(-1, 4)]).rival_reach]
[True, ((((1, 2), (1, 2)),),), False, (1,)]
>>> three = KeeperMove((End(((0, 1, -1),)), End(((-1, 0, 1),)), End(((1, -1, 0),))))
>>> [holds(three, [1], [0, 0, 0]).book.chances, bool(holds(three, [1], [1, 1, -1])), bool(holds(three, [1], [1, 0, -1])), bool(holds(three, (0,), (0, 0, 7)))]
[((((1, 3), (1, 3), (1, 3)),),), True, False, True]
>>> best_limits(three, holds(three, [1], [1, -1, 0]).book, [1])
(1, -1, 0)
>>> holds(three, [1], [0, 0])
raises BadNumber('limits')
"""
WORTHS = """
>>> [worth(penny, [1], [1]).number, worth(three, [1], [1, 1, 1]).number, worth(three, [1], [1, 0, 0]).number, worth(three, [2], [(1, 2), (1, 2), 0]).number, worth(three, [0], [5, 5, 5]).number]
[0, 0, -1, -1, 0]
>>> bluff = KeeperSees((((1, 2), (1, 2)),), KeeperMove((End(((-1,), (1,))), RivalMove((End(((-1,), (-1,))), End(((-2,), (2,))))))))
>>> told = worth(bluff, [1], [1])
>>> [told.number, told.book.chances, told.rival_book.chances]
[(-1, 3), (((0, 1), ((2, 3), (1, 3))),), ((((1, 3), (2, 3)),),)]
>>> best_limits(bluff, told.book, [1])
((-1, 3),)
>>> worth(bluff, [1], [-1])
raises BadNumber('rival_reach')
"""
CHECK_CONES = """
>>> even = Book(three, "keeper", ((((1, 3), (1, 3), (1, 3)),),))
>>> [shows_holds(three, [1], [0, 0, 0], Held(even)), shows_holds(three, [1], [0, 1, -1], Held(even)), shows_holds(three, [1], [0, 1, -1], holds(three, [1], [0, 1, -1])), shows_holds(three, [1], [0, 0, 0], even)]
[True, False, True, False]
>>> idle = Book(three, "rival", ())
>>> [shows_holds(three, [1], [0, 0, -1], Broken((0, 0, 1), idle)), shows_holds(three, [1], [0, 0, -1], Broken([(1, 3), (1, 3), (1, 3)], idle)), shows_holds(three, [1], [0, 0, -1], Broken((1, 1, 1), idle))]
[False, True, False]
>>> [shows_worth(three, [1], [1, 1, 1], Worth(0, even, idle)), shows_worth(three, [1], [1, 1, 1], Worth(1, even, idle)), shows_worth(three, [1], [2, 1, 1], Worth(0, even, idle))]
[True, False, False]
"""
SPLITS = """
>>> guess = KeeperHides((2,), RivalMove((End(((1,), (-1,))), End(((-1,), (1,))))))
>>> [split(guess, (1,), (0,)), split(End(((2,),)), (1,), (2,))]
[((((1, 2), (1, 2)), (0,)),), ()]
>>> throw = KeeperMove((End(((0, 1, -1),)), End(((-1, 0, 1),)), End(((1, -1, 0),))))
>>> thirds = [(((1, 3),), (0, (1, 3), (-1, 3))), (((1, 3),), ((-1, 3), 0, (1, 3))), (((1, 3),), ((1, 3), (-1, 3), 0))]
>>> [fits_split(throw, (1,), (0, 0, 0), value) for value in (thirds, thirds[:2], [((1,), (0, 1, -1)), ((0,), (0, 0, 0)), ((0,), (0, 0, 0))])]
[True, False, False]
>>> [fits_split(throw, (1,), (0, 1, -1), [((1,), (0, 1, -1)), ((0,), (0, 0, 0)), ((0,), (0, 0, 0))]), fits_split(throw, (1,), (0, 0, -1), thirds)]
[True, False]
>>> split(throw, (1, 0), (0, 0, 0))
raises BadNumber('reach')
"""
PLAYERS = """
>>> player = Player(guess, (1,), (0,))
>>> [player.chances(), player.goes(0), player.chances(), player.reach, player.limits, player.way, player.over, str(player)]
[(((1, 2), (1, 2)),), None, (), ((1, 2), (1, 2)), (0,), (0,), False, '0 / 1/2 1/2 / 0']
>>> other = taken_up(guess, "0 / 1/2 1/2 / 0")
>>> [other == player, other.goes(1), other.way, other.over, other.chances(), other == player]
[True, None, (0, 1), True, (), False]
>>> bluff = KeeperSees((((1, 2), (1, 2)),), KeeperMove((End(((-1,), (1,))), RivalMove((End(((-1,), (-1,))), End(((-2,), (2,))))))))
>>> seer = Player(bluff, (1,), ((-1, 3),))
>>> [seer.goes(0), seer.chances(), seer.goes(1), str(seer)]
[None, ((0, 1), ((2, 3), (1, 3))), None, '0 1 / 1/2 1/6 / -2/3']
>>> book = played_book(bluff, (1,), ((-1, 3),))
>>> [book.chances, best_limits(bluff, book, (1,))]
[(((0, 1), ((2, 3), (1, 3))),), ((-1, 3),)]
>>> player.goes(2)
raises NoPart(2)
>>> taken_up(guess, "0 2 / 1 / 0")
raises BadText(0, 1)
>>> taken_up(guess, "0 / 1/2 -1/2 / 0")
raises BadText(0, 3)
"""
JUDGES = """
>>> raised = RivalMove((End(((-1,), (-1,))), End(((-2,), (2,)))))
>>> bluff = KeeperSees((((1, 2), (1, 2)),), KeeperMove((End(((-1,), (1,))), raised)))
>>> good, bold = Book(bluff, "keeper", (((0, 1), ((2, 3), (1, 3))),)), Book(bluff, "keeper", (((0, 1), (0, 1)),))
>>> told = judged(bluff, good)
>>> [told.word, told.limits, told.rival_book.chances]
['unbeaten', (((-1, 3),), ((-1, 3),), ((1, 3),), ((-2, 3),), ((-2, 3),), ((-2, 3),)), ((((1, 3), (2, 3)),),)]
>>> told = judged(bluff, bold)
>>> [told.word, bool(told), is_less(best_limits(bluff, told.book, (1,))[0], pay(bluff, bold, told.rival_book, (1,), (1,)))]
['beaten', False, True]
>>> rows = [[(-1, 3)], [(-1, 3)], [(1, 3)], [(-2, 3)], [(-2, 3)], [(-2, 3)]]
>>> [fits(bluff, good, (1,), rows), fits(bluff, good, (1,), [[0]] + rows[1:]), fits(bluff, good, (1,), rows[:5] + [[-1]]), fits(bluff, bold, (1,), rows), fits(bluff, good, (1,), None)]
[True, True, False, False, False]
"""
CHECK_JUDGES = """
>>> calls, third = Book(bluff, "rival", (((0, 1),),)), Book(bluff, "rival", ((((1, 3), (2, 3)),),))
>>> [shows_judged(bluff, good, Unbeaten(rows, third)), shows_judged(bluff, good, Unbeaten([[0]] + rows[1:], third)), shows_judged(bluff, good, Unbeaten(rows, calls))]
[True, False, False]
>>> [shows_judged(bluff, bold, Beaten(calls, good)), shows_judged(bluff, bold, Beaten(third, good)), shows_judged(bluff, good, Beaten(calls, good))]
[True, False, False]
"""
PRICES = """
>>> [all_prices(bluff, good, (1,)), all_prices(bluff, bold, (1,))]
[(((0, 1), 0, 0, 0), ((0, 1), 0, 1, 0)), (((0, 1), 0, 0, 1), ((0, 1), 0, 1, 0))]
>>> three = KeeperMove((End(((0, 1, -1),)), End(((-1, 0, 1),)), End(((1, -1, 0),))))
>>> game = RivalHides((3,), three)
>>> stone, even = Book(game, "keeper", (((1, 0, 0),),)), Book(game, "rival", ((((1, 3), (1, 3), (1, 3)),),))
>>> [all_prices(game, stone, (1,)), lost(game, stone, even, (1,), (1,)), pay(game, stone, even, (1,), (1,)), best_limits(game, stone, (1,))]
[(((), 0, 0, 1), ((), 0, 1, 0), ((), 0, 2, 2)), 1, 0, (1,)]
>>> lost(bluff, bold, third, (1,), (1,))
(1, 3)
"""
FACETS = """
>>> [walls_of([(1, 0), (2, 1), [2, 4]]), least_of([(1, 0), (2, 1), [2, 4]])]
[((0, 1), (2, -1)), ((1, 0), (1, 2))]
>>> square = [(0, 0, 1), (1, 0, 1), (0, 1, 1), (1, 1, 1), (1, 1, 2)]
>>> [walls_of(square), least_of(square)]
[((-1, 0, 1), (0, -1, 1), (0, 1, 0), (1, 0, 0)), ((0, 0, 1), (0, 1, 1), (1, 0, 1), (1, 1, 1))]
>>> [walls_of(walls_of(square)) == least_of(square), walls_of([(3, 0, 0), (0, 2, 0), (0, 0, 5), (1, 1, 1)])]
[True, ((0, 0, 1), (0, 1, 0), (1, 0, 0))]
>>> walls_of([(1, 0), (0, 1), (-1, 0)])
raises Misfit('vectors')
>>> least_of([(1, 2), (2, 4)])
raises Misfit('vectors')
>>> walls_of([(1, 2), (0, 0)])
raises BadNumber('vectors')
"""
LISTS = """
>>> two, fewer = End(((2,),)), KeeperMove((End(((3,),)), End(((1,),))))
>>> [rays_for(two), walls_for(two), rays_for(fewer), walls_for(fewer)]
[((0, 1), (1, 2)), ((-2, 1), (1, 0)), ((0, 1), (1, 1)), ((-1, 1), (1, 0))]
>>> three = KeeperMove((End(((0, 1, -1),)), End(((-1, 0, 1),)), End(((1, -1, 0),))))
>>> rays_for(three)
((0, 0, 0, 1), (0, 0, 1, 0), (0, 1, 0, 0), (1, -1, 0, 1), (1, 0, 1, -1), (1, 1, -1, 0))
>>> walls_for(three)
((0, 1, 1, 1), (1, 0, 0, 0), (1, 0, 0, 1), (1, 0, 1, 0), (1, 0, 1, 2), (1, 1, 0, 0), (1, 1, 2, 0), (1, 2, 0, 1))
>>> [rays_for(RivalHides((3,), three)), walls_for(RivalHides((3,), three))]
[((0, 1), (1, 0)), ((0, 1), (1, 0))]
>>> raising = KeeperMove((End(((-1,), (1,))), RivalMove((End(((-1,), (-1,))), End(((-2,), (2,)))))))
>>> [rays_for(raising), walls_for(raising)]
[((0, 0, 1), (0, 1, 1), (1, 0, -1), (3, 1, -4)), ((0, 1, 0), (1, 0, 0), (1, 1, 1), (5, -3, 3))]
>>> [walls_for(KeeperSees((((1, 2), (1, 2)),), raising)), rays_for(Draw(((1, 2), (1, 2)), (two, End(((-4,),)))))]
[((1, 0), (1, 3)), ((0, 1), (1, -1))]
>>> rays_for(End(((0, 0, 0, 0), (1, 1, 1, 1), (2, 2, 2, 2))))
raises TooMany('hands', 6)
"""
COMPARED = """
>>> two, fewer, one = End([[2]]), KeeperMove([End([[3]]), End([[1]])]), End([[1]])
>>> [compared(fewer, one), never_worse(fewer, two), bool(compared(two, fewer)), bool(never_worse(two, fewer))] == [Alike(), NeverWorse(), False, False]
True
>>> chance = Draw([(1, 2), (1, 2)], [two, End([[0]])])
>>> [compared(chance, one).word, compared(RivalMove([one, chance]), one).word, compared(KeeperMove([chance, two]), fewer).word]
['alike', 'alike', 'alike']
>>> flat, steep = End([[1], [1]]), End([[0], [2]])
>>> [compared(flat, steep).word, never_worse(flat, steep).word, never_worse(steep, flat).word]
['unlike', 'worse', 'worse']
>>> compared(two, flat)
raises Misfit('other')
>>> compared(End([[0, 0, 0, 0], [0, 0, 0, 0], [0, 0, 0, 0]]), None)
raises BadPiece('other')
"""
CHECK_COMPARED = """
>>> first = KeeperSees([[1, 0]], RivalSees([[1]], Hole(2, 1)))
>>> [shows_compared(flat, steep, Unlike(first, 1, 0)), shows_compared(flat, steep, Unlike(first, 0, 1)), shows_compared(flat, steep, compared(flat, steep)), shows_compared(flat, steep, Alike())]
[True, False, True, False]
>>> even = KeeperSees([[1, 1]], Hole(2, 1))
>>> [shows_compared(flat, steep, Unlike(even, 2, 2)), shows_never_worse(flat, steep, Worse(first, 1, 0)), shows_never_worse(steep, flat, Worse(first, 0, 1))]
[False, True, False]
>>> last = KeeperSees([[0, (1, 2)]], Hole(2, 1))
>>> [shows_never_worse(steep, flat, Worse(last, 1, (1, 2))), shows_never_worse(fewer, two, NeverWorse()), shows_never_worse(two, fewer, NeverWorse()), shows_compared(fewer, one, Alike()), shows_compared(fewer, one, None)]
[True, True, False, True, False]
"""
NAIVE = """
>>> three = KeeperMove((End(((0, 1, -1),)), End(((-1, 0, 1),)), End(((1, -1, 0),))))
>>> [naive_safe(three, (1,), limits, (1, 1, 1)).word for limits in ((0, 0, 0), (1, 1, 1), (1, 1, 0))]
['robbed', 'safe', 'robbed']
>>> told = naive_safe(three, (1,), (0, 0, 0), (2, 1, 1))
>>> [told.word, told.hand, told.book.chances]
['robbed', 2, (((0, 1, 0),),)]
>>> bluff = KeeperSees((((1, 2), (1, 2)),), KeeperMove((End(((-1,), (1,))), RivalMove((End(((-1,), (-1,))), End(((-2,), (2,))))))))
>>> [naive_safe(bluff, (1,), ((-1, 3),), ((5, 2),)).word, naive_safe(bluff, (1,), (0,), (1,)).word]
['safe', 'safe']
"""
CHECK_NAIVE = """
>>> stone, none = Book(three, "keeper", (((1, 0, 0),),)), Book(three, "rival", ())
>>> [shows_naive(three, (1,), (0, 0, 0), (1, 1, 1), Robbed(hand, stone, none)) for hand in (0, 1, 2)]
[False, True, False]
>>> [shows_naive(three, (1,), limits, (1, 1, 1), Safe(stone, [(1, none)] * 3)) for limits in ((1, 1, 1), (1, 1, (1, 2)))]
[True, False]
>>> [shows_naive(three, (1,), (1, 1, 1), (1, 1, 1), Safe(stone, [((1, 2), none)] * 3)), shows_naive(three, (1,), (0, 0, 0), (2, 1, 1), Robbed(1, stone, none))]
[False, False]
"""
TURNINGS = """
>>> opened(Draw([1, 2], [End([[3]]), End([[5]])])) == RivalSees([[1, 2]], RivalShows([[0], [1]], [End([[3]]), End([[5]])]))
True
>>> opened(KeeperMove([End([[1], [2]]), End([[0], [4]])])) == KeeperHides([2, 2], KeeperShows([[0, 2], [1, 3]], [End([[1], [2]]), End([[0], [4]])]))
True
>>> three = KeeperMove([End([[3]]), End([[1]])])
>>> [trimmed(three) == KeeperMove([End([[1]])]), trimmed(RivalMove(three.parts)) == RivalMove([End([[3]])])]
[True, True]
>>> mixed = KeeperMove([End([[0, 2]]), End([[2, 0]]), End([[1, 1]])])
>>> [trimmed(mixed) == KeeperMove(mixed.parts[:2]), trimmed(Draw([0, 1], [three, KeeperMove([End([[1]])] * 2)])) == Draw([0, 1], [KeeperMove([End([[1]])])] * 2)]
[True, True]
>>> [scaled(End([[2, (1, 3)]]), (1, 2)).table, worth(scaled(three, 0), [1], [1]).number, worth(joined(three, End([[4]])), [1], [1]).number]
[((1, (1, 6)),), 0, 5]
>>> opened(RivalMove([End([[0, 0, 0]])] * 3))
raises TooMany('hands', 8)
>>> joined(three, End([[1, 2]]))
raises Misfit('other')
"""
MATCHES = """
>>> bluff = KeeperSees((((1, 2), (1, 2)),), KeeperMove((End(((-1,), (1,))), RivalMove((End(((-1,), (-1,))), End(((-2,), (2,))))))))
>>> match = Match(bluff)
>>> [match.worth, match.wants, match.told(1), match.keeper_hand, match.wants, match.told((2, 3)), match.wants, match.told(1)]
[(-1, 3), 'keeper', None, 1, 'coin', None, 'choice', None]
>>> [match.wants, match.paid, match.story]
['nothing', 2, ('keeper-sees 1', 'keeper-move 2/3 1', 'rival-move 1', 'end 2')]
>>> again = Match(bluff)
>>> [again.told(1), again.told((1, 2)), again.paid, again.story[1:]]
[None, None, 1, ('keeper-move 1/2 0', 'end 1')]
>>> [mean_paid(bluff, Book(bluff, "rival", [[row]])) for row in ((1, 0), (0, 1), ((1, 2), (1, 2)))]
[(-1, 3), (-1, 3), (-1, 3)]
>>> odd = Match(KeeperSees(((1, 0),), End(((1,), (2,)))))
>>> odd.told(1)
raises Misfit('weight')
>>> again.told(0)
raises Misfit('over')
"""
# A name stands for what the module under whose heading it is printed has, not for what that module imports.
MODULES = (numbers, programs, check_programs, pieces, piece_texts, frames, books, answers, mirrors, cones, worths,
           check_cones, splits, players, judges, check_judges, prices, facets, lists, compared, check_compared, naive,
           check_naive, turnings, matches, errors)
SECTIONS = (PROGRAMS, CHECK_PROGRAMS, PIECES, PIECE_TEXTS, FRAMES, BOOKS, ANSWERS, MIRRORS, CONES, WORTHS, CHECK_CONES,
            SPLITS, PLAYERS, JUDGES, CHECK_JUDGES, PRICES, FACETS, LISTS, COMPARED, CHECK_COMPARED, NAIVE, CHECK_NAIVE,
            TURNINGS, MATCHES)


def own_names(module):
    """Return what the module itself defines."""
    return {name: value for name, value in vars(module).items()
            if getattr(value, "__module__", None) == module.__name__}


class PrintedTest(unittest.TestCase):
    def test_examples(self):
        names = {}
        for module in MODULES:
            names.update(own_names(module))
        for section in SECTIONS:
            run_examples(self, section, names)

    def test_interface(self):
        wanted = {
            programs: "Program Best NoPoint Unbounded solved",
            check_programs: "shows_solved",
            pieces: "End KeeperMove RivalMove Draw KeeperHides RivalHides KeeperSees RivalSees KeeperShows RivalShows "
                    "Hole is_piece is_frame ways place_at choosing_ways",
            piece_texts: "read",
            frames: "hole_ways filled cut exchanged",
            books: "Book even_book first_book book_read",
            answers: "pay best_limits best_answer floors floor_answer",
            mirrors: "mirrored mirrored_book",
            cones: "Held Broken holds",
            worths: "Worth worth",
            check_cones: "shows_holds shows_worth",
            splits: "split fits_split",
            players: "Player taken_up played_book",
            judges: "Unbeaten Beaten judged fits",
            check_judges: "shows_judged",
            prices: "all_prices lost",
            facets: "walls_of least_of",
            lists: "rays_for walls_for",
            compared: "Alike NeverWorse Unlike Worse compared never_worse",
            check_compared: "shows_compared shows_never_worse",
            naive: "Safe Robbed naive_safe",
            check_naive: "shows_naive",
            turnings: "opened trimmed scaled joined",
            matches: "Match mean_paid",
        }
        for module, names in wanted.items():
            self.assertLessEqual(set(names.split()), set(own_names(module)))
        for name in ["Program", *wanted[pieces].split()[:11]]:
            made = getattr(programs if name == "Program" else pieces, name)
            self.assertLessEqual({"__init__", "__eq__", "__str__"}, set(vars(made)))
        self.assertIn("read", vars(programs.Program))
        self.assertLessEqual({"__init__", "__eq__", "__str__", "row"}, set(vars(books.Book)))
        self.assertLessEqual({"__init__", "__eq__", "__str__", "chances", "goes"}, set(vars(players.Player)))
        self.assertLessEqual({"__init__", "sitting", "told"}, set(vars(matches.Match)))


if __name__ == "__main__":
    unittest.main()
