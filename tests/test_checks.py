import unittest

from examples import run_examples

from planless import checks
from planless.checks import is_integer, is_lot, is_number, is_row, is_weight, is_weights, is_within
from planless.papers import Paper

EXAMPLES = """
>>> [is_integer(True), is_within(3, None, 3), is_number(-7), is_number((7, 2)), is_number([-7, 2]), is_number((4, 2)), is_number((3, 1)), is_number((1, -2)), is_number((0, 5)), is_number(0.5)]
[False, True, True, True, True, False, False, False, False, False]
>>> [is_weight(0), is_weight((1, 2)), is_weight((-1, 2)), is_weight(True), is_row([1, (1, 2)], 2), is_row((1, 2), 1), is_row(((1, 2),), 1), is_weights((0, -1), 2), is_lot([0, 3]), is_lot((2, 2)), is_lot(())]
[True, True, False, False, True, False, True, False, True, False, True]
"""
HUGE = 10 ** 60
# None of these is an integer, a number, a list of them, or a bound.
STRANGE = [True, False, "", "1", "1/2", b"1", 0.5, 1.0, {}, {1: 2}, {1, 2}, range(2), Paper("note"), object(),
           float("nan"), iter([1]), is_number, int]


class ChecksTest(unittest.TestCase):
    def all_are(self, wanted, function, values, *more):
        for value in values:
            with self.subTest(value):
                self.assertIs(function(value, *more), wanted)

    def test_examples(self):
        run_examples(self, EXAMPLES, dict(vars(checks)))

    def test_is_integer(self):
        self.all_are(True, is_integer, [0, 1, -1, HUGE, -HUGE, 10 ** 5000])
        self.all_are(False, is_integer, [*STRANGE, None, (), [], (1,), (1, 2), (3, 1)])
        self.assertIs(is_integer(value=1), True)

    def test_is_within(self):
        for least, most, inside, outside in (
            (2, 4, [2, 3, 4], [1, 5, -3]),
            (None, 4, [4, -HUGE], [5, HUGE]),
            (2, None, [2, HUGE], [1, -HUGE]),
            (None, None, [0, HUGE, -HUGE], []),
            (3, 3, [3], [2, 4]),
            (4, 3, [], [3, 4]),
            (-2, 0, [-2, 0], [-3, 1]),
        ):
            with self.subTest((least, most)):
                self.all_are(True, is_within, inside, least, most)
                self.all_are(False, is_within, [*outside, *STRANGE, None, (), [], (1, 2)], least, most)
        self.assertIs(is_within(most=3, least=1, value=2), True)

    def test_is_within_with_strange_bounds(self):
        for bound in STRANGE:
            self.assertIs(is_within(1, bound, None), False)
            self.assertIs(is_within(1, None, bound), False)

    def test_is_number(self):
        good = [0, 1, -1, HUGE, (1, 2), [1, 2], (-7, 2), [7, 3], (HUGE, 7), (1, HUGE), (-1, HUGE)]
        self.all_are(True, is_number, good)
        bad = [(4, 2), (3, 1), (1, -2), (0, 5), (0, 1), (0, 2), (1, 0), (1, 1), (2, 4), (-2, 4), (0, 0), (5, 5)]
        self.all_are(False, is_number, bad)
        self.all_are(False, is_number, [list(pair) for pair in bad])
        self.all_are(False, is_number, [(HUGE, 10), (HUGE, HUGE + 2)])
        self.all_are(False, is_number, [None, (), [], (1,), (1, 2, 3), ((1, 2), 3), (1, (2, 3)), "12", {1: 2, 3: 4}])
        self.all_are(False, is_number, [(True, 2), (1, True), (1, "2"), (1.0, 2), (1, 2.0), (None, 2), (1, None)])
        self.all_are(False, is_number, STRANGE)
        self.assertIs(is_number(value=(1, 2)), True)

    def test_is_weight(self):
        self.all_are(True, is_weight, [0, 1, HUGE, (1, 2), [1, 2], (1, HUGE)])
        self.all_are(False, is_weight, [-1, -HUGE, (-1, 2), [-1, 2], (-1, HUGE)])
        self.all_are(False, is_weight, [*STRANGE, None, (), [], (2, 4), (3, 1), (0, 5), (1, 2, 3), (1, True)])
        self.assertIs(is_weight(value=3), True)

    def test_is_row(self):
        self.all_are(True, is_row, [[1, (1, 2)], (1, 2), [-1, 0], ([1, 2], (-1, 3))], 2)
        self.all_are(True, is_row, [[], ()], 0)
        self.all_are(True, is_row, [[0], (0,), ((1, 2),), [[1, 2]]], 1)
        self.all_are(False, is_row, [[1], (), [1, 2, 3], [1, True], [1, (2, 4)], [1, "2"], [1, None], "12", {1: 2}], 2)
        self.all_are(False, is_row, [(1, 2), [1, 2], 1, [], [[]], [[1]]], 1)
        for many in (0, 1, 2):
            self.all_are(False, is_row, [*STRANGE, None, 1], many)
        self.all_are(False, is_row, [(), [1]], -1)
        self.assertIs(is_row(many=1, value=[3]), True)

    def test_is_weights(self):
        self.all_are(True, is_weights, [[1, (1, 2)], (0, 0), ([1, 2], 3)], 2)
        self.all_are(True, is_weights, [[], ()], 0)
        self.all_are(False, is_weights, [(0, -1), ((-1, 2), 0), [1], [1, 2, 3], [1, True], [1, (2, 4)], "12"], 2)
        for many in (0, 1, 2):
            self.all_are(False, is_weights, [*STRANGE, None, 1], many)
        self.assertIs(is_weights(many=1, value=[3]), True)

    def test_rows_of_a_strange_length(self):
        for many in [*STRANGE, None, (1,)]:
            for function in (is_row, is_weights):
                self.assertIs(function([1], many), False)

    def test_is_lot(self):
        self.all_are(True, is_lot, [(), [], [0], (5,), [0, 3], (0, 1, 2), (-2, 0, HUGE)])
        self.all_are(False, is_lot, [(2, 2), [1, 0], (0, 1, 1), (0, 2, 1), [0, True], [True], [(1, 2)], [0, "1"], [None]])
        self.all_are(False, is_lot, [*STRANGE, None, 0, 1])
        self.assertIs(is_lot(value=()), True)

    def test_what_is_passed_stays(self):
        row = [1, [1, 2], (3, 1)]
        for function in (is_integer, is_number, is_weight, is_lot):
            function(row)
        is_row(row, 3)
        is_weights(row, 3)
        is_within(row, 0, 3)
        self.assertEqual(row, [1, [1, 2], (3, 1)])


if __name__ == "__main__":
    unittest.main()
