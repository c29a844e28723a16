import unittest
from fractions import Fraction
from itertools import product as pairs

from examples import check_raises
from fractions_of import fraction, fractions, number, product

from planless.check_programs import shows_solved
from planless.errors import BadProgram
from planless.papers import Denial, Paper
from planless.programs import Best, NoPoint, Program, Unbounded, solved

PAIR = Program([2, 3], [([1, 1], "least", 4), ([1, -1], "just", 0)])
NARROW = Program([1], [([1], "least", 3), ([-1], "least", -2)])
FREE = Program([-1, 0], [([1, -1], "just", 0)])
WRONG = [None, True, False, 1, 0.5, "", "12", b"1", (), [], {}, {1: 2}, (1,), (1, 2, 3), (True, True), (1, True),
         ((2, 4), 1), ((3, 1), 1), ("1", "2"), (None, 2), (1, -2), ((-1, 2), 2), ((1, 2),), [[1, 2]]]
VALUES = sorted({Fraction(above, below) for above in range(-2, 4) for below in (1, 2)})


def holds(condition, row, right):
    """Tell by fractions whether a row has the sum that is asked for."""
    total = product(fractions(condition[0]), row)
    return total == right if condition[1] == "just" else total >= right


class CheckProgramsTest(unittest.TestCase):
    def shows(self, program, value, wanted):
        self.assertIs(shows_solved(program, value), wanted)

    def test_no_program(self):
        for value in (None, 1, "1", ([1], []), Program, Best(1, (1,), ())):
            check_raises(self, BadProgram("program"), shows_solved, value, None)
            check_raises(self, BadProgram("program"), shows_solved, value=NoPoint(()), program=value)

    def test_no_paper(self):
        for value in (*WRONG, PAIR, Best, Paper("best", 10, (2, 2), ((5, 2), (-1, 2))), Paper("nopoint", (1, 1)),
                      Denial("nopoint", (1, 1)), Denial("unbounded", (0, 0), (1, 1)), object()):
            for program in (PAIR, NARROW, FREE):
                self.shows(program, value, False)

    def test_no_paper_of_these_classes(self):
        for program in (PAIR, NARROW, FREE):
            told = solved(program)
            # Made by calling a class below that of the paper, or one of the same name.
            for base, name in ((told.__class__, "Better"), (Paper, told.__class__.__name__)):
                other = type(name, (base,), {})
                value = other(*told.parts) if base is not Paper else other(told.word, *told.parts)
                vars(value).update(vars(told))
                self.shows(program, value, False)
            self.shows(program, told, True)

    def test_answers(self):
        for program in (PAIR, NARROW, FREE, Program([0], []), Program([-1], [])):
            self.assertIs(shows_solved(value=solved(program), program=program), True)
        self.shows(NARROW, solved(PAIR), False)
        self.shows(PAIR, solved(NARROW), False)
        self.shows(FREE, solved(PAIR), False)
        self.shows(PAIR, solved(FREE), False)

    def test_parts_of_any_kind(self):
        for value in WRONG:
            self.shows(PAIR, Best(10, value, ((5, 2), (-1, 2))), False)
            self.shows(PAIR, Best(10, (2, 2), value), False)
            self.shows(PAIR, Best(value, (2, 2), ((5, 2), (-1, 2))), False)
            self.shows(FREE, Unbounded(value, (1, 1)), False)
            self.shows(FREE, Unbounded((1, 1), value), False)
            self.shows(PAIR, Best(value, value, value), False)
            self.shows(NARROW, NoPoint(value), False)

    def test_true_is_no_number(self):
        one = Program([1], [([1], "least", 1)])
        self.shows(one, Best(1, (1,), (1,)), True)
        for parts in ((True, (1,), (1,)), (1, (True,), (1,)), (1, (1,), (True,)), (1.0, (1,), (1,))):
            self.shows(one, Best(*parts), False)
        self.shows(Program([0], []), Best(False, (0,), ()), False)
        self.shows(NARROW, NoPoint([True, True]), False)
        self.shows(FREE, Unbounded((0, 0), (True, True)), False)
        self.shows(FREE, Unbounded((False, False), (1, 1)), False)

    def test_one_form_of_a_number(self):
        half = Program([1], [([2], "least", 1)])
        self.shows(half, Best((1, 2), [[1, 2]], ([1, 2],)), True)
        for parts in (((2, 4), ((1, 2),), ((1, 2),)), ((1, 2), ((2, 4),), ((1, 2),)), ((1, 2), ((1, 2),), ((2, 4),))):
            self.shows(half, Best(*parts), False)

    def test_not_the_one_that_solved_returns(self):
        flat = Program([0, 0], [([1, 1], "least", 1)])
        for point in ((1, 0), (0, 1), ((1, 2), (1, 2)), (5, 7)):
            self.shows(flat, Best(0, point, [0]), True)
        self.shows(flat, Best(0, ((1, 2), (1, 3)), [0]), False)
        twice = Program([1], [([1], "least", 1), ([1], "least", 1), ([2], "just", 2)])
        for row in ((1, 0, 0), (0, 1, 0), (0, 0, (1, 2)), (2, 1, -1), (0, (3, 2), (-1, 4))):
            self.shows(twice, Best(1, (1,), row), True)
        for row in ((2, -1, 0), (0, 0, 1), (1, 1, 0), (0, 0, 0)):
            self.shows(twice, Best(1, (1,), row), False)

    def test_best_by_adding_up(self):
        program = Program([(3, 2), (3, 2)], [([1, 2], "least", 2), ([1, -1], "just", (1, 2))])
        found = 0
        for point in pairs(VALUES, repeat=2):
            for row in pairs(VALUES, repeat=2):
                value = product(fractions(program.costs), point)
                right = min(point) >= 0 and row[0] >= 0 and value == 2 * row[0] + row[1] / 2
                right = right and all(holds(one, point, fraction(one[2])) for one in program.conditions)
                right = right and row[0] + row[1] <= Fraction(3, 2) and 2 * row[0] - row[1] <= Fraction(3, 2)
                told = Best(number(value), [number(one) for one in point], [number(one) for one in row])
                self.shows(program, told, right)
                self.shows(program, Best(number(value + 1), told.point, told.multipliers), False)
                found += right
        self.assertGreater(found, 0)

    def test_no_point_by_adding_up(self):
        program = Program([0, 0], [([1, -1], "least", 1), ([-2, 1], "just", 1)])
        self.shows(program, solved(program), True)
        found = 0
        for row in pairs(VALUES, repeat=2):
            right = row[0] >= 0 and row[0] - 2 * row[1] <= 0 and row[1] <= row[0] and sum(row) > 0
            self.shows(program, NoPoint([number(one) for one in row]), right)
            found += right
        self.assertGreater(found, 0)
        self.shows(program, NoPoint((0, 0)), False)

    def test_unbounded_by_adding_up(self):
        program = Program([1, -1], [([2, -1], "least", -1)])
        found = 0
        for row in pairs(VALUES, repeat=2):
            numbers = [number(one) for one in row]
            fits = min(row) >= 0 and 2 * row[0] - row[1] >= -1
            leads = min(row) >= 0 and 2 * row[0] - row[1] >= 0 and row[0] < row[1]
            self.shows(program, Unbounded(numbers, (1, 2)), fits)
            self.shows(program, Unbounded((0, 1), numbers), leads)
            found += leads
        self.assertGreater(found, 0)

    def test_without_conditions(self):
        self.shows(Program([1, 0], []), Best(0, (0, 0), ()), True)
        self.shows(Program([1, 0], []), Best(0, (0, 7), ()), True)
        self.shows(Program([1, 0], []), Best(1, (1, 0), ()), False)
        self.shows(Program([1, -1], []), Best(0, (0, 0), ()), False)
        self.shows(Program([1, -1], []), Unbounded((0, 3), (1, 2)), True)
        self.shows(Program([1, -1], []), Unbounded((0, 3), (1, 1)), False)
        self.shows(Program([1, -1], []), NoPoint(()), False)

    def test_what_is_passed_stays(self):
        point, row = [2, 2], [[5, 2], [-1, 2]]
        told = Best(10, point, row)
        shows_solved(PAIR, told)
        self.assertEqual((point, row), ([2, 2], [[5, 2], [-1, 2]]))
        point[0] = 3
        row[0][0] = 7
        self.shows(PAIR, told, True)


if __name__ == "__main__":
    unittest.main()
