"""Runs the examples of each module that the document prints, in their order."""

import unittest

from examples import run_examples

from planless import check_programs, errors, frames, piece_texts, pieces, programs

PROGRAMS = """
>>> pair = Program([2, 3], [([1, 1], "least", 4), ([1, -1], "just", 0)])
>>> [str(pair), pair.conditions[1], solved(pair).parts, bool(solved(pair))]
['2 3 / 1 1 least 4 / 1 -1 just 0', ((1, -1), 'just', 0), (10, (2, 2), ((5, 2), (-1, 2))), True]
>>> narrow = Program([1], [([1], "least", 3), ([-1], "least", -2)])
>>> [bool(solved(narrow)), solved(narrow).word, solved(Program([1, 2], [])).parts, solved(Program([1, -1], [])).word]
[False, 'nopoint', (0, (0, 0), ()), 'unbounded']
>>> Program.read("2 1/2 / 1 1 least -4") == Program((2, (1, 2)), [[(1, 1), "least", -4]])
True
>>> Program.read("2 / 1 most 3")
raises BadText(0, 3)
>>> Program.read("2 3 / 1 least 4")
raises BadText(0, 4)
>>> Program([1], [([1, 2], "least", 0)])
raises BadProgram('conditions')
"""
CHECK_PROGRAMS = """
>>> [shows_solved(pair, value) for value in (solved(pair), Best(10, [2, 2], [(5, 2), (-1, 2)]), Best(10, (2, 2), (2, 0)), Best(11, (2, 2), ((5, 2), (-1, 2))), None)]
[True, True, False, False, False]
>>> [shows_solved(narrow, NoPoint(multipliers)) for multipliers in ([1, 1], [(2, 3), (5, 7)], [2, 1], [1, 2], [-1, -1], [1])]
[True, True, False, False, False, False]
>>> free = Program([-1, 0], [([1, -1], "just", 0)])
>>> [shows_solved(free, Unbounded(point, way)) for point, way in (((0, 0), (1, 1)), ((5, 5), ((1, 2), (1, 2))), ((0, 0), (1, 0)), ((1, 0), (1, 1)), ((0, 0), (0, 0)))]
[True, True, False, False, False]
"""
PIECES = """
>>> guess = RivalMove([End([[1], [-1]]), End([[-1], [1]])])
>>> hide = KeeperHides([2], guess)
>>> [hide.keeper_hands, hide.rival_hands, guess.keeper_hands, hide.many, hide.levels, hide.counts, len(hide.parts), guess.parts[0].table]
[1, 1, 2, 4, 3, (2,), 1, ((1,), (-1,))]
>>> [ways(hide), place_at(hide, [0, 1]) == guess.parts[1], choosing_ways(hide, "keeper"), choosing_ways(hide, "rival")]
[((), (0,), (0, 0), (0, 1)), True, ((),), ((0,),)]
>>> shown = KeeperShows([[0, 2], [1]], [End([[1], [2]]), End([[5]])])
>>> [shown.keeper_hands, shown.lots, is_piece(shown), is_piece(Hole(1, 1)), is_frame(Hole(1, 1)), is_piece(None)]
[3, ((0, 2), (1,)), True, False, True, False]
>>> [KeeperMove([Hole(1, 2)]) == RivalMove([Hole(1, 2)]), Draw([(1, 2), 0], [Hole(1, 2), End([[0, 4]])]) == Draw(((1, 2), 0), (Hole(1, 2), End(((0, 4),))))]
[False, True]
>>> KeeperMove([End([[1]]), End([[1, 2]])])
raises Misfit('parts')
>>> KeeperHides([2], End([[1]]))
raises Misfit('part')
>>> KeeperShows([[1], [0]], [End([[1]]), End([[2]])])
raises BadNumber('lots')
>>> place_at(hide, (0, 2))
raises NoWay((0, 2))
"""
PIECE_TEXTS = """
>>> [str(hide), str(shown), str(RivalSees([[(1, 2), (1, 2)], [1]], Hole(1, 3)))]
['keeper-hides 1 2 rival-move 2 end 2 1 1 -1 end 2 1 -1 1', 'keeper-shows 3 0 1 0 end 2 1 1 2 end 1 1 5', 'rival-sees 2 2 1/2 1/2 1 1 hole 1 3']
>>> [read(str(hide)) == hide, read("draw 2 1 0 hole 1 1 hole 1 1").weights]
[True, (1, 0)]
>>> read("keeper-shows 2 1 0 end 1 1 5 end 1 1 5")
raises BadText(0, 2)
>>> read("keeper-move 2 end 1 1 5 end 1 2 5 6")
raises BadText(0, 10)
>>> read("keeper-hides 1 2 end 2 1 5")
raises BadText(0, 7)
"""
FRAMES = """
>>> frame, part = cut(hide, [0])
>>> [str(frame), part == guess, hole_ways(frame), filled(frame, part) == hide]
['keeper-hides 1 2 hole 2 1', True, ((0,),), True]
>>> [str(exchanged(hide, (0, 0), End([[4], [0]]))), cut(hide, ())[0] == Hole(1, 1), exchanged(hide, (), End([[7]]))== End([[7]])]
['keeper-hides 1 2 rival-move 2 end 2 1 4 0 end 2 1 -1 1', True, True]
>>> twice = Draw([1, 1], [Hole(1, 1), KeeperMove([End([[0]]), Hole(1, 1)])])
>>> [hole_ways(twice), filled(twice, End([[7]])).many, filled(twice, hide).levels]
[((0,), (1, 1)), 5, 5]
>>> filled(twice, guess)
raises Misfit('piece')
>>> filled(hide, hide)
raises BadFrame('frame')
>>> cut(twice, ())
raises BadPiece('piece')
"""
# A name stands for what the module under whose heading it is printed has, not for what that module imports.
MODULES = (programs, check_programs, pieces, piece_texts, frames, errors)
SECTIONS = (PROGRAMS, CHECK_PROGRAMS, PIECES, PIECE_TEXTS, FRAMES)


def own_names(module):
    """Return what the module itself defines."""
    return {name: value for name, value in vars(module).items()
            if getattr(value, "__module__", None) == module.__name__}


class PrintedTest(unittest.TestCase):
    def test_examples(self):
        names = {}
        for module in MODULES:
            names.update(own_names(module))
        for section in SECTIONS:
            run_examples(self, section, names)

    def test_interface(self):
        wanted = {
            programs: "Program Best NoPoint Unbounded solved",
            check_programs: "shows_solved",
            pieces: "End KeeperMove RivalMove Draw KeeperHides RivalHides KeeperSees RivalSees KeeperShows RivalShows "
                    "Hole is_piece is_frame ways place_at choosing_ways",
            piece_texts: "read",
            frames: "hole_ways filled cut exchanged",
        }
        for module, names in wanted.items():
            self.assertLessEqual(set(names.split()), set(own_names(module)))
        for name in ["Program", *wanted[pieces].split()[:11]]:
            made = getattr(programs if name == "Program" else pieces, name)
            self.assertLessEqual({"__init__", "__eq__", "__str__"}, set(vars(made)))
        self.assertIn("read", vars(programs.Program))


if __name__ == "__main__":
    unittest.main()
