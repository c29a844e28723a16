import random
import time
import unittest
from fractions import Fraction

from examples import check_raises
from fractions_of import fraction, fractions, listed, number, product

from planless.check_programs import shows_solved
from planless.errors import BadProgram
from planless.programs import Best, NoPoint, Program, Unbounded, solved

SHORT = 5


def columns(program, multipliers):
    """Return the columns of multipliers."""
    return [product(fractions([condition[0][at] for condition in program.conditions]), multipliers)
            for at in range(len(program.costs))]


class SolvedTest(unittest.TestCase):
    def check_point(self, program, point):
        self.assertIsInstance(point, tuple)
        self.assertEqual(len(point), len(program.costs))
        row = fractions(point)
        self.assertTrue(all(value >= 0 for value in row))
        for coefficients, word, right in program.conditions:
            total = product(fractions(coefficients), row)
            if word == "just":
                self.assertEqual(total, fraction(right))
            else:
                self.assertGreaterEqual(total, fraction(right))

    def check_multipliers(self, program, multipliers, bounds):
        """Check that they are multipliers none of whose columns is above its bound; return their sum."""
        self.assertIsInstance(multipliers, tuple)
        self.assertEqual(len(multipliers), len(program.conditions))
        row = fractions(multipliers)
        for condition, multiplier in zip(program.conditions, row):
            self.assertTrue(multiplier >= 0 or condition[1] == "just")
        for column, bound in zip(columns(program, row), bounds):
            self.assertLessEqual(column, bound)
        return product(row, fractions([condition[2] for condition in program.conditions]))

    def check_answer(self, program):
        """Check by adding up that the answer is right; return its word."""
        told = solved(program)
        costs = fractions(program.costs)
        if told.word == "best":
            self.assertIs(told.__class__, Best)
            self.check_point(program, told.point)
            self.assertEqual(product(costs, fractions(told.point)), fraction(told.value))
            self.assertEqual(self.check_multipliers(program, told.multipliers, costs), fraction(told.value))
        elif told.word == "nopoint":
            self.assertIs(told.__class__, NoPoint)
            self.assertGreater(self.check_multipliers(program, told.multipliers, [0] * len(costs)), 0)
        else:
            self.assertIs(told.__class__, Unbounded)
            self.check_point(program, told.point)
            rights = [(coefficients, word, 0) for coefficients, word, _ in program.conditions]
            self.check_point(Program(program.costs, rights), told.direction)
            self.assertLess(product(costs, fractions(told.direction)), 0)
        self.assertIs(shows_solved(program, told), True)
        # repr tells a list from a tuple, and True from 1.
        again = solved(Program(listed(program.costs), listed(program.conditions)))
        self.assertEqual(repr((again.word, again.parts)), repr((told.word, told.parts)))
        self.assertEqual(again, told)
        return told.word

    def in_short(self, program):
        """Check the answer, and that it comes in a short time; return its word."""
        start = time.monotonic()
        solved(program)
        self.assertLess(time.monotonic() - start, SHORT)
        return self.check_answer(program)

    def test_no_program(self):
        for value in (None, 1, "1", ([1], []), [1], Program, Best(1, (1,), ())):
            check_raises(self, BadProgram("program"), solved, value)

    def test_no_conditions(self):
        for costs in ([0], [3], [0, 0, 0], [(1, 2), 0, 5]):
            told = solved(Program(costs, []))
            self.assertEqual(told, Best(0, [0] * len(costs), ()))
        for costs in ([-1], [3, (-1, 2)], [0, -1, -2]):
            self.assertEqual(self.check_answer(Program(costs, [])), "unbounded")
        told = solved(program=Program([4, (-1, 2)], []))
        self.assertEqual((told.point, told.direction), ((0, 0), (0, 1)))

    def test_one_cost(self):
        for cost in (-1, 0, 1):
            for rows, word in (
                ([([1], "least", 3)], {-1: "unbounded"}),
                ([([1], "just", 3)], {}),
                ([([1], "just", -3)], dict.fromkeys((-1, 0, 1), "nopoint")),
                ([([-1], "least", -3)], {}),
                ([([-1], "least", 3)], dict.fromkeys((-1, 0, 1), "nopoint")),
                ([([0], "least", 0)], {-1: "unbounded"}),
                ([([0], "just", 0)], {-1: "unbounded"}),
                ([([0], "just", 1)], dict.fromkeys((-1, 0, 1), "nopoint")),
                ([([0], "just", -1)], dict.fromkeys((-1, 0, 1), "nopoint")),
                ([([0], "least", 1)], dict.fromkeys((-1, 0, 1), "nopoint")),
                ([([0], "least", -1)], {-1: "unbounded"}),
                ([([2], "just", 3), ([4], "just", 6)], {}),
                ([([2], "just", 3), ([4], "just", 7)], dict.fromkeys((-1, 0, 1), "nopoint")),
                ([([2], "just", 3), ([-4], "just", 7)], dict.fromkeys((-1, 0, 1), "nopoint")),
                ([([1], "least", 0), ([-1], "least", 0)], {}),
                ([([1], "least", 3), ([-1], "least", -3), ([1], "just", 3)], {}),
            ):
                with self.subTest((cost, rows)):
                    self.assertEqual(self.check_answer(Program([cost], rows)), word.get(cost, "best"))

    def test_values(self):
        for costs, rows, value, point in (
            ([1, 1], [([1, 2], "least", 4), ([2, 1], "least", 4)], (8, 3), ((4, 3), (4, 3))),
            ([-3, -5], [([-1, 0], "least", -4), ([0, -2], "least", -12), ([-3, -2], "least", -18)], -36, (2, 6)),
            ([(1, 2), (1, 3)], [([1, 1], "just", 1)], (1, 3), (0, 1)),
            ([5, 0], [([1, -1], "just", 2)], 10, (2, 0)),
        ):
            told = solved(Program(costs, rows))
            self.assertEqual((told.value, told.point), (value, point))

    def test_many_small_programs(self):
        draw = random.Random(11)
        values = [0, 0, 1, -1, 2, -2, Fraction(1, 2), Fraction(-3, 2)]
        told = []
        for at in range(3000):
            wide, many = draw.randint(1, 5), draw.randint(0, 5)
            rows = [([number(draw.choice(values)) for _ in range(wide)], draw.choice(("least", "just")),
                     number(draw.choice(values))) for _ in range(many)]
            rows += draw.choices(rows, k=draw.choice((0, 0, 1))) if rows else []
            costs = [number(draw.choice(values)) for _ in range(wide)]
            told.append(self.check_answer(Program(costs, rows)))
        self.assertEqual(set(told), {"best", "nopoint", "unbounded"})

    def test_every_size_with_ties(self):
        draw = random.Random(12)
        words = []
        for wide in range(1, 21):
            for many in range(0, 21):
                rows = [([draw.choice((0, 0, 1, -1)) for _ in range(wide)],
                         "just" if draw.random() < .25 else "least", 0 if at % 3 else draw.choice((0, 0, -1, 1)))
                        for at in range(many)]
                for at in range(1, many, 4):
                    rows[at] = rows[at - 1]
                costs = [draw.choice((0, 0, 1, 2)) if draw.random() < .97 else -1 for _ in range(wide)]
                words.append(self.in_short(Program(costs, rows)))
        self.assertEqual(set(words), {"best", "nopoint", "unbounded"})

    def test_rights_of_nought(self):
        draw = random.Random(13)
        for _ in range(60):
            rows = [([draw.choice((0, 1, -1, 2, -2)) for _ in range(20)], draw.choice(("least", "least", "just")), 0)
                    for _ in range(20)]
            costs = [draw.choice((0, 1, -1)) for _ in range(20)]
            self.assertIn(self.in_short(Program(costs, rows)), ("best", "unbounded"))

    def test_great_sizes(self):
        draw = random.Random(14)

        def any_number(low):
            return number(Fraction(draw.randint(low, 9999), draw.randint(1, 99)))

        words = []
        for low, costs_from, rights in ((-9999, 0, -9999), (0, 0, 0), (-9999, -9999, -9999), (-5000, 0, 0), (0, -9999, 0)):
            for share in (0, .3, 1):
                rows = [([any_number(low) for _ in range(20)], "just" if draw.random() < share else "least",
                         any_number(rights)) for _ in range(20)]
                words.append(self.in_short(Program([any_number(costs_from) for _ in range(20)], rows)))
        self.assertEqual(set(words), {"best", "nopoint", "unbounded"})

    def test_no_least_with_many_conditions(self):
        draw = random.Random(15)
        for wide in range(2, 21):
            # All numbers may grow together, by the row of ones.
            rows = []
            for _ in range(20):
                row = [draw.randint(-3, 3) for _ in range(wide - 1)]
                rows.append((row + [draw.choice((0, 0, 1)) - sum(row)], "least", draw.randint(-5, 5)))
            costs = [draw.randint(-3, 3) for _ in range(wide - 1)]
            self.assertIn(self.in_short(Program(costs + [-1 - sum(costs)], rows)), ("unbounded", "nopoint"))
        self.assertEqual(self.in_short(Program([-1] * 20, [([1] * 20, "least", 1)] * 20)), "unbounded")

    def test_no_point_with_many_conditions(self):
        draw = random.Random(16)
        for wide in range(1, 21):
            rows = [([draw.randint(-9, 9) for _ in range(wide)], draw.choice(("least", "just")), 0) for _ in range(18)]
            # What some of them make up together cannot be 1 or more and 0 or less at once.
            total = [sum(row[0][at] for row in rows) for at in range(wide)]
            rows += [(total, "least", 1), ([-value for value in total], "least", 0)]
            draw.shuffle(rows)
            self.assertEqual(self.in_short(Program([1] * wide, rows)), "nopoint")

    def test_long_edges(self):
        # Programs along whose edges a careless way is led through nearly all of many corners.
        for wide in range(1, 21):
            for base in (2, 100):
                rows = [([-2 * base ** (at - before) for before in range(at)] + [-1] + [0] * (wide - at - 1), "least",
                         -base ** (2 * at)) for at in range(wide)]
                costs = [-base ** (wide - 1 - at) for at in range(wide)]
                told = solved(Program(costs, rows))
                self.assertEqual(told.value, -base ** (2 * wide - 2))
                self.assertEqual(self.in_short(Program(costs, rows)), "best")
                if wide < 20:
                    # The same with one more number that all rights hang on: no right but 0.
                    hung = [(row + [-right], "least", 0) for row, _, right in rows]
                    self.assertEqual(self.in_short(Program(costs + [0], hung)), "unbounded")

    def test_cycles(self):
        # Beale's and Kuhn's programs, in which a careless way comes back to where it was.
        beale = Program([(-3, 4), 150, (-1, 50), 6], [
            ([(-1, 4), 60, (1, 25), -9], "least", 0), ([(-1, 2), 90, (1, 50), -3], "least", 0),
            ([0, 0, -1, 0], "least", -1)])
        self.assertEqual(solved(beale).value, (-1, 20))
        kuhn = Program([-2, -3, 1, 12], [
            ([2, 9, -1, -9], "least", 0), ([(-1, 3), -1, (1, 3), 2], "least", 0), ([-2, -3, 1, 12], "least", -2)])
        for program in (beale, kuhn):
            self.in_short(program)

    def test_assignments(self):
        # Two rows of ones, many corners of which are the same point.
        for many in range(1, 5):
            cells = [(at, to) for at in range(many) for to in range(many)]
            costs = [(at * 7 + to * to * 3) % 5 for at, to in cells]
            rows = [([int(cell[side] == at) for cell in cells], "just", 1) for side in (0, 1) for at in range(many)]
            self.assertEqual(self.in_short(Program(costs, rows)), "best")

    def test_great_numbers(self):
        great = 10 ** 60 - 1
        program = Program([great, (1, great)], [([1, (-1, great)], "least", (great - 1, great)), ([0, 1], "just", great)])
        self.assertEqual(self.check_answer(program), "best")
        self.assertEqual(self.check_answer(Program([1], [([great], "just", (1, great))])), "best")

    def test_what_is_passed_stays(self):
        program = Program([2, 3], [([1, 1], "least", 4), ([1, -1], "just", 0)])
        text = repr((program.costs, program.conditions))
        solved(program)
        self.assertEqual(repr((program.costs, program.conditions)), text)


if __name__ == "__main__":
    unittest.main()
