import unittest
from itertools import product
from math import gcd

from examples import check_raises

from planless.errors import BadNumber, BadText
from planless.numbers import number_of, number_text

SIXTY = "9" * 60
NUMBERS = [
    (0, "0"), (7, "7"), (-7, "-7"), (10, "10"), (100, "100"), (-100, "-100"),
    ((7, 2), "7/2"), ((-1, 3), "-1/3"), ((10, 3), "10/3"), ((3, 10), "3/10"), ((-20, 101), "-20/101"),
    (int(SIXTY), SIXTY), (-int(SIXTY), "-" + SIXTY),
    ((1, int(SIXTY)), "1/" + SIXTY), ((-int(SIXTY) + 1, int(SIXTY)), "-" + "9" * 59 + "8/" + SIXTY),
]
NO_TEXTS = [
    "", " ", "-", "/", "+1", "-0", "00", "01", "-01", "--1", "1-", "a", "1a", "1.0", "1e3", "0x1", "1_000", "1,0",
    " 1", "1 ", "1 2", "1\n", "\n1", "1\t", "\u0661", "\u00b2", "\uff11", "-\u0661", "None", "True",
    "4/2", "3/1", "0/5", "0/1", "2/4", "-2/4", "1/0", "0/0", "1/-2", "-1/-2", "1/+2", "+1/2", "1/02", "01/2", "-0/3",
    "1/", "/2", "-/2", "1//2", "1/2/3", "1/ 2", "1 /2", "1/2 ", " 1/2", "1/a", "a/2", "1/\u0662", "-1/-3",
    "1" + "0" * 60, "-1" + "0" * 60, "0" * 61, "1/1" + "0" * 60, "1" + "0" * 60 + "/3", "9" * 20000,
    "9" * 5000, "1/" + "9" * 5000,
]


class NumberTextsTest(unittest.TestCase):
    def test_written(self):
        for number, text in NUMBERS:
            self.assertEqual(number_text(number), text)
            if isinstance(number, tuple):
                self.assertEqual(number_text(list(number)), text)
        self.assertEqual(number_text(value=3), "3")

    def test_read(self):
        for number, text in NUMBERS:
            self.assertEqual(repr(number_of(text)), repr(number))
        self.assertEqual(number_of(text="3"), 3)

    def test_written_and_read(self):
        for above, below in product(range(-30, 31), range(2, 20)):
            self.assertEqual(number_of(number_text(above)), above)
            if gcd(above, below) == 1:
                self.assertEqual(number_of(number_text((above, below))), (above, below))
            else:
                check_raises(self, BadText(0, 0), number_of, f"{above}/{below}")

    def test_short_strings(self):
        written = {text for _, text in NUMBERS}
        written.update(str(number) for number in range(-99, 1000))
        for many in range(5):
            for signs in product("-/014 ", repeat=many):
                text = "".join(signs)
                try:
                    self.assertEqual(number_text(number_of(text)), text)
                except BadText as error:
                    self.assertEqual((error.line, error.item), (0, 0))
                    self.assertNotIn(text, written)

    def test_no_text(self):
        for text in NO_TEXTS:
            with self.subTest(text[:80]):
                check_raises(self, BadText(0, 0), number_of, text)

    def test_no_string(self):
        for value in (None, 1, True, 0.5, b"1", ["1"], ("1",), {"1": 1}, (1, 2)):
            with self.subTest(value):
                check_raises(self, BadText(0, 0), number_of, value)

    def test_more_than_sixty_digits_are_written(self):
        # What was returned may be passed on, whatever its digits.
        many = 10 ** 60
        self.assertEqual(number_text(many), "1" + "0" * 60)
        self.assertEqual(number_text((-1, many)), "-1/1" + "0" * 60)
        self.assertEqual(number_text((10 ** 999, 3)), "1" + "0" * 999 + "/3")

    def test_no_number(self):
        for value in (True, False, None, "7", 0.5, (4, 2), (3, 1), (0, 5), (1, -2), (1, 0), (), (1,), [1, 2, 3],
                      (1, True), (1, "2"), {1: 2}):
            with self.subTest(value):
                check_raises(self, BadNumber("value"), number_text, value)

    def test_what_is_passed_stays(self):
        pair = [7, 2]
        number_text(pair)
        self.assertEqual(pair, [7, 2])


if __name__ == "__main__":
    unittest.main()
