import unittest

from examples import check_raises

from planless.errors import BadProgram, TooMany
from planless.papers import Denial, Paper
from planless.programs import Best, NoPoint, Program, Unbounded

STRANGE = [None, True, False, 1, 0.5, "", "1", "1 2", b"1", {}, {1: 2}, {1}, range(2), object(), iter([1])]
NO_NUMBERS = [None, True, False, "1", "", 0.5, (2, 4), (3, 1), (0, 5), (1, -2), (1,), (), [1, 2, 3], (1, True), {1: 2}]
GOOD = [([1, -2], "least", 3), ((0, (1, 2)), "just", (-1, 3)), [[[7, 2], 0], "least", [1, 2]], ([0, 0], "just", 0)]


class ProgramsTest(unittest.TestCase):
    def test_attributes(self):
        program = Program([2, [1, 2]], GOOD)
        self.assertEqual(repr(program.costs), "(2, (1, 2))")
        self.assertEqual(repr(program.conditions), repr((
            ((1, -2), "least", 3), ((0, (1, 2)), "just", (-1, 3)), (((7, 2), 0), "least", (1, 2)),
            ((0, 0), "just", 0))))
        self.assertEqual(Program(conditions=[], costs=(0,)).conditions, ())
        # A pair is costs of two numbers, a pair in a list is one number.
        self.assertEqual(Program((1, 2), []).costs, (1, 2))
        self.assertEqual(Program(((1, 2),), ()).costs, ((1, 2),))

    def test_no_costs(self):
        for value in [*STRANGE, [], (), *[[1, bad] for bad in NO_NUMBERS]]:
            with self.subTest(value):
                check_raises(self, BadProgram("costs"), Program, value, [])
                check_raises(self, BadProgram("costs"), Program, value, None)
                check_raises(self, BadProgram("costs"), Program, conditions=[None] * 61, costs=value)

    def test_no_conditions(self):
        for value in STRANGE:
            with self.subTest(value):
                check_raises(self, BadProgram("conditions"), Program, [1, 2], value)
                check_raises(self, BadProgram("conditions"), Program, [1, 2], [value])
                check_raises(self, BadProgram("conditions"), Program, [1, 2], [*GOOD, value])

    def test_no_condition(self):
        bad = [((1, 2), "least"), ((1, 2), "least", 0, 0), (), [], ("least", (1, 2), 0), ((1, 2), 0, "least"),
               ((1,), "least", 0), ((1, 2, 3), "least", 0), ((), "least", 0), (((1, 2),), "least", 0),
               ([1, 2], ["least"], 0), ([1, 2], "least", (1, 2, 3)), ([1, 2], "least", [[1, 2]])]
        bad += [([1, 2], word, 0) for word in (
            "most", "Least", "least ", " just", "", "JUST", None, 1, True, b"least", ["just"], {"least": 1})]
        bad += [([1, 2], "just", number) for number in NO_NUMBERS]
        bad += [([1, number], "just", 0) for number in NO_NUMBERS]
        bad += [(value, "just", 0) for value in STRANGE]
        for value in bad:
            with self.subTest(value):
                check_raises(self, BadProgram("conditions"), Program, [1, 2], [value])
                check_raises(self, BadProgram("conditions"), Program, [1, 2], [*GOOD, value, *GOOD])
        check_raises(self, BadProgram("conditions"), Program, [1, 2], GOOD[0])

    def test_sixty_and_more(self):
        row = [0] * 60
        program = Program(row, [(row, "just", 0)] * 60)
        self.assertEqual((len(program.costs), len(program.conditions)), (60, 60))
        check_raises(self, TooMany("costs", 60), Program, [0] * 61, [])
        check_raises(self, TooMany("conditions", 60), Program, [0], [([0], "just", 0)] * 61)
        check_raises(self, TooMany("costs", 60), Program, [0] * 61, [([0] * 61, "just", 0)] * 61)
        check_raises(self, TooMany("costs", 60), Program, [0] * 300, [])

    def test_the_first_is_told(self):
        check_raises(self, BadProgram("costs"), Program, [], None)
        check_raises(self, BadProgram("costs"), Program, [True] * 61, [([0], "most", 0)] * 61)
        check_raises(self, BadProgram("conditions"), Program, [0] * 61, None)
        check_raises(self, BadProgram("conditions"), Program, [0] * 61, [([0] * 60, "just", 0)])
        check_raises(self, BadProgram("conditions"), Program, [0], [([0], "just", 0)] * 61 + [None])

    def test_equal(self):
        program = Program([1, (1, 2)], [([1, -2], "least", 3)])
        self.assertIs(program == Program(([1], [1, 2])[0] + [[1, 2]], ([(1, -2), "least", 3],)), True)
        self.assertIs(program != Program([1, (1, 2)], [([1, -2], "least", 3)]), False)
        for other in (Program([1, 2], [([1, -2], "least", 3)]), Program([1, (1, 2)], []),
                      Program([1, (1, 2)], [([1, -2], "just", 3)]), Program([1, (1, 2)], [([1, -2], "least", 4)]),
                      Program([1, (1, 2)], [([1, -2], "least", 3)] * 2), Program([1, (1, 2)], [([1, 2], "least", 3)])):
            self.assertIs(program == other, False)
            self.assertIs(program != other, True)
        for value in (None, 1, str(program), (program.costs, program.conditions), Program, Best(1, 2, 3)):
            self.assertIs(program == value, False)
            self.assertIs(value == program, False)

    def test_what_is_passed_is_copied(self):
        costs, coefficients, right = [2, [1, 2]], [1, [-2, 3]], [1, 3]
        condition = [coefficients, "least", right]
        conditions = [condition, condition]
        program = Program(costs, conditions)
        self.assertEqual(costs, [2, [1, 2]])
        self.assertEqual(conditions, [[[1, [-2, 3]], "least", [1, 3]]] * 2)
        costs[1][0] = 5
        costs.append(1)
        coefficients[0] = 9
        right[0] = 2
        condition[1] = "just"
        conditions.append(None)
        self.assertEqual(program.costs, (2, (1, 2)))
        self.assertEqual(program.conditions, (((1, (-2, 3)), "least", (1, 3)),) * 2)


class AnswerPapersTest(unittest.TestCase):
    def test_classes(self):
        self.assertTrue(issubclass(Best, Paper))
        self.assertFalse(issubclass(Best, Denial))
        self.assertTrue(issubclass(NoPoint, Denial))
        self.assertTrue(issubclass(Unbounded, Denial))

    def test_parts(self):
        for made, word, fields, truth in ((Best, "best", ("value", "point", "multipliers"), True),
                                          (NoPoint, "nopoint", ("multipliers",), False),
                                          (Unbounded, "unbounded", ("point", "direction"), False)):
            for value in ([1, [2, (3, [4])]], None, True, "x", (), {"a": [1]}):
                passed = [value, [5], 6][:len(fields)]
                told = made(*passed)
                self.assertEqual(told.word, word)
                self.assertIs(bool(told), truth)
                self.assertEqual(told, made(**dict(zip(fields, passed))))
                self.assertEqual(told.parts, tuple(getattr(told, field) for field in fields))
            self.assertEqual(getattr(made(*[[1, [2]]] * len(fields)), fields[-1]), (1, (2,)))

    def test_equal_only_in_one_class(self):
        self.assertIs(NoPoint((1,)) == NoPoint([1]), True)
        self.assertIs(NoPoint((1,)) == Denial("nopoint", (1,)), False)
        self.assertIs(Unbounded((1,), (2,)) == Best((1,), (2,), ()), False)
        self.assertIs(Best(1, (2,), ()) == Paper("best", 1, (2,), ()), False)
        self.assertIs(Best(1, (2,), ()) == Best(1, [2], []), True)
        self.assertIs(Best(1, (2,), ()) == Best(1, [3], []), False)


if __name__ == "__main__":
    unittest.main()
