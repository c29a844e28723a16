import unittest
from fractions import Fraction
from itertools import product

from examples import check_raises, run_examples

from planless import numbers
from planless.errors import BadNumber, BadText, Misfit
from planless.numbers import (greatest, is_less, least, minus, over, plus, product_sum, ratio, sum_of, times)

EXAMPLES = """
>>> [ratio(6, 4), ratio(6, -4), ratio(6, 3), ratio(0, -5), plus((1, 2), (1, 3)), plus((1, 2), [1, 2]), minus(1, (1, 3)), times((2, 3), 3), over(1, (-2, 3))]
[(3, 2), (-3, 2), 2, 0, (5, 6), 1, (2, 3), 2, (-3, 2)]
>>> [is_less((1, 3), (1, 2)), is_less(2, 2), least([3, (5, 2), (8, 3)]), greatest(((-1, 2), -1)), sum_of([(1, 2), (1, 3), (1, 6)]), sum_of(()), product_sum([(1, 2), 2], (3, (1, 4)))]
[True, False, (5, 2), (-1, 2), 1, 0, 2]
>>> [number_text((-7, 2)), number_text(7), number_of("-7/2"), number_of("0")]
['-7/2', '7', (-7, 2), 0]
>>> number_of("4/2")
raises BadText(0, 0)
>>> over(1, 0)
raises Misfit('other')
>>> plus(1, (2, 4))
raises BadNumber('other')
>>> product_sum([1, 2], [1])
raises BadNumber('other')
"""
NINES = 10 ** 60 - 1
WRONG = [True, False, None, "1", "1/2", 0.5, (2, 4), (3, 1), (1, -2), (0, 5), (1, 0), (1,), (), [1, 2, 3],
         (1, True), (True, 2), {1: 2}, {1, 2}, Fraction(1, 2)]
WRONG_LISTS = [None, 1, "12", {1: 2}, {1, 2}, range(3), iter([1]), True, [True], [1, None], [1, (2, 4)], ((3, 1),),
               [1, "2"], [[1]], [(1, 2, 3)]]


def number(fraction):
    """Return the number for a fraction."""
    above, below = fraction.numerator, fraction.denominator
    return above if below == 1 else (above, below)


def fraction(value):
    """Return the fraction for a number."""
    return Fraction(value) if isinstance(value, int) else Fraction(*value)


SOME = sorted({Fraction(above, below) for above in range(-4, 5) for below in range(1, 5)})
SOME = SOME + [Fraction(NINES, 7), Fraction(-1, NINES), Fraction(NINES - 1, NINES), Fraction(NINES)]


class ReckonTest(unittest.TestCase):
    def same(self, told, wanted):
        # repr tells a tuple from a list, and True from 1.
        self.assertEqual(repr(told), repr(wanted))

    def test_examples(self):
        names = dict(vars(numbers))
        names.update({"BadNumber": BadNumber, "BadText": BadText, "Misfit": Misfit})
        run_examples(self, EXAMPLES, names)

    def test_ratio(self):
        for above, below in product(range(-12, 13), range(-12, 13)):
            if below != 0:
                self.same(ratio(above, below), number(Fraction(above, below)))
        self.same(ratio(NINES * 2, NINES * 4), (1, 2))
        self.same(ratio(NINES, -1), -NINES)
        self.same(ratio(below=4, above=6), (3, 2))

    def test_ratio_wrong(self):
        for value in [*WRONG, (1, 2), [1, 2]]:
            check_raises(self, BadNumber("above"), ratio, value, 1)
            check_raises(self, BadNumber("below"), ratio, 1, value)
            check_raises(self, BadNumber("above"), ratio, value, 0)
        check_raises(self, BadNumber("below"), ratio, 1, 0)
        check_raises(self, BadNumber("below"), ratio, 0, 0)

    def test_two_numbers(self):
        for one, other in product(SOME, SOME):
            for here, there in ((number(one), number(other)), (as_list(one), as_list(other))):
                self.same(plus(here, there), number(one + other))
                self.same(minus(here, there), number(one - other))
                self.same(times(here, there), number(one * other))
                self.same(is_less(here, there), one < other)
                if other == 0:
                    check_raises(self, Misfit("other"), over, here, there)
                else:
                    self.same(over(here, there), number(one / other))

    def test_two_numbers_by_name(self):
        self.same(plus(other=2, one=1), 3)
        self.same(minus(other=2, one=1), -1)
        self.same(times(other=2, one=(1, 2)), 1)
        self.same(over(other=2, one=1), (1, 2))
        self.same(is_less(other=2, one=1), True)

    def test_two_numbers_wrong(self):
        for function in (plus, minus, times, over, is_less):
            for value in WRONG:
                with self.subTest((function, value)):
                    check_raises(self, BadNumber("one"), function, value, 1)
                    check_raises(self, BadNumber("other"), function, 1, value)
                    check_raises(self, BadNumber("one"), function, value, value)
        check_raises(self, BadNumber("one"), over, None, 0)
        check_raises(self, Misfit("other"), over, 0, 0)

    def test_least_and_greatest(self):
        for rows in product(SOME[:9], repeat=3):
            row = [number(value) for value in rows]
            self.same(least(row), number(min(rows)))
            self.same(greatest(tuple(row)), number(max(rows)))
        self.same(least([3]), 3)
        self.same(greatest([[1, 2]]), (1, 2))
        self.same(least([[5, 2], (5, 2), 3]), (5, 2))
        self.same(greatest([[5, 2], (5, 2), 2]), (5, 2))
        self.same(least((1, 2)), 1)
        self.same(greatest(values=(1, 2)), 2)
        self.same(least(values=[2, -NINES]), -NINES)

    def test_sum_of(self):
        for rows in product(SOME[::4], repeat=3):
            self.same(sum_of([number(value) for value in rows]), number(sum(rows)))
        self.same(sum_of([]), 0)
        self.same(sum_of(((1, 2),)), (1, 2))
        self.same(sum_of((1, 2)), 3)
        self.same(sum_of(values=[[1, 2], [1, 2]]), 1)
        self.same(sum_of([(1, NINES)] * 3 + [(-1, NINES)] * 3), 0)

    def test_product_sum(self):
        for rows in product(SOME[::5], repeat=4):
            row = [number(value) for value in rows]
            self.same(product_sum(row[:2], tuple(row[2:])), number(rows[0] * rows[2] + rows[1] * rows[3]))
        self.same(product_sum([], ()), 0)
        self.same(product_sum((1, 2), [[1, 2], (1, 4)]), 1)
        self.same(product_sum(other=[2], row=[(1, 2)]), 1)

    def test_lists_wrong(self):
        for value in [*WRONG_LISTS, [], ()]:
            check_raises(self, BadNumber("values"), least, value)
            check_raises(self, BadNumber("values"), greatest, value)
        for value in WRONG_LISTS:
            check_raises(self, BadNumber("values"), sum_of, value)
            check_raises(self, BadNumber("row"), product_sum, value, [1])
            check_raises(self, BadNumber("row"), product_sum, value, value)
            check_raises(self, BadNumber("other"), product_sum, [1], value)
            check_raises(self, BadNumber("other"), product_sum, [1, 2], value)
        for row, other in (([], [1]), ([1], []), ([1], [1, 2]), ([(1, 2)], (1, 2))):
            check_raises(self, BadNumber("other"), product_sum, row, other)
        check_raises(self, BadNumber("row"), product_sum, [True], [])

    def test_what_is_passed_stays(self):
        one, row = [1, 2], [[1, 2], [2, 3], 1]
        for function in (plus, minus, times, over, is_less):
            function(one, one)
        for function in (least, greatest, sum_of):
            function(row)
        product_sum(row, row)
        self.assertEqual((one, row), ([1, 2], [[1, 2], [2, 3], 1]))
        told = least(row)
        row[0][0] = 5
        self.same(told, (1, 2))


def as_list(value):
    """Return the number for a fraction, a list if it is a pair."""
    told = number(value)
    return told if isinstance(told, int) else list(told)


if __name__ == "__main__":
    unittest.main()
