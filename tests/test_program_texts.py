import random
import unittest

from examples import check_raises

from planless.errors import BadText
from planless.numbers import number_of
from planless.programs import Program

SIXTY = "9" * 60
TEXTS = [
    "0", "2 3", "-1/2", "2 3 / 1 1 least 4 / 1 -1 just 0", "1 / 0 just 0", "2 1/2 / 1 1 least -4",
    "-7/3 0 5 / 0 0 1/2 least -1/3 / 1 2 3 just 100 / 1 2 3 just 100",
    f"{SIXTY} 1/{SIXTY} / -{SIXTY} 0 least {SIXTY}",
]
NEVER = ["", "x", "+1", "01", "-0", "4/2", "3/1", "0/5", "1/-2", "1.5", "most", "Least", "//", "-/", "1/", "/2", "\n",
         "1\n", "\t1", "\u0661", "1" + "0" * 60, "1/1" + "0" * 60]


def is_number_text(item):
    """Tell whether the item is the text of a number."""
    try:
        number_of(item)
    except BadText:
        return False
    return True


def first_wrong(items):
    """Return the index of the first item that cannot stand, or None: by states, item by item."""
    costs, state, left, conditions = 0, "costs", 0, 0
    for at, item in enumerate(items):
        if state in ("costs", "condition") and item == "/" and costs > 0 and conditions < 60:
            state, left, conditions = "row", costs, conditions + 1
        elif state == "costs" and is_number_text(item) and costs < 60:
            costs += 1
        elif state == "row" and left > 0 and is_number_text(item):
            left -= 1
        elif state == "row" and left == 0 and item in ("least", "just"):
            state = "right"
        elif state == "right" and is_number_text(item):
            state = "condition"
        else:
            return at
    return len(items) if state in ("row", "right") else None


class ProgramTextsTest(unittest.TestCase):
    def check(self, text):
        """Check that the text is read if it is one, and refused where it must be."""
        wrong = first_wrong(text.split(" "))
        if wrong is None:
            self.assertEqual(str(Program.read(text)), text)
        else:
            check_raises(self, BadText(0, wrong), Program.read, text)

    def test_read_and_written(self):
        for text in TEXTS:
            program = Program.read(text)
            self.assertEqual(str(program), text)
            self.assertEqual(program, Program(program.costs, program.conditions))
        self.assertEqual(Program.read(text="2 3").costs, (2, 3))
        told = Program.read(TEXTS[6])
        self.assertEqual(repr(told.costs), "((-7, 3), 0, 5)")
        self.assertEqual(repr(told.conditions[0]), "((0, 0, (1, 2)), 'least', (-1, 3))")
        self.assertIs(Program([1], []).read("1 / 1 just 1") == Program([1], [([1], "just", 1)]), True)

    def test_written_from_lists(self):
        self.assertEqual(str(Program([[1, 2], -3], [[[0, [-1, 2]], "just", [7, 3]]])), "1/2 -3 / 0 -1/2 just 7/3")
        many = 10 ** 60
        self.assertEqual(str(Program([many], [])), str(many))

    def test_no_string(self):
        for value in (None, True, 0, 1, b"1", ["1"], ("1", "2"), {"1": 2}, Program([1], [])):
            check_raises(self, BadText(0, 0), Program.read, value)

    def test_bent_at_any_item(self):
        for text in TEXTS:
            items = text.split(" ")
            for at in range(len(items)):
                for item in NEVER:
                    check_raises(self, BadText(0, at), Program.read, " ".join([*items[:at], item, *items[at + 1:]]))
                    check_raises(self, BadText(0, at), Program.read, " ".join([*items[:at], item, *items[at:]]))
                self.check(" ".join([*items[:at], *items[at + 1:]]))
                for item in ("/", "least", "just", "7", "-7/2", "0"):
                    self.check(" ".join([*items[:at], item, *items[at + 1:]]))
                    self.check(" ".join([*items[:at], item, *items[at:]]))
            for at in range(len(items) + 1):
                self.check(" ".join(items[:at]))
            check_raises(self, BadText(0, len(items)), Program.read, text + " ")
            check_raises(self, BadText(0, len(items)), Program.read, text + " x")

    def test_any_items(self):
        draw = random.Random(4)
        for _ in range(3000):
            self.check(" ".join(draw.choices(["1", "2/3", "/", "least", "just", "x"], [6, 3, 4, 3, 3, .3],
                                             k=draw.randint(1, 12))))

    def test_missing_items(self):
        for text, item in (("", 0), ("2 /", 2), ("2 3 / 1", 4), ("2 / 1", 3), ("2 / 1 least", 4), ("2 / 1 just 1 /", 6)):
            check_raises(self, BadText(0, item), Program.read, text)

    def test_one_too_many(self):
        for text, item in (("2 / 1 1 least 0", 3), ("2 / 1 least 0 0", 5), ("2 / 1 least 0 least", 5), ("/ 2", 0),
                           ("2 / / 1 just 1", 2), (" 2", 0), ("2 ", 1), ("2  3", 1)):
            check_raises(self, BadText(0, item), Program.read, text)

    def test_sixty_and_more(self):
        row = " ".join(["1"] * 60)
        self.assertEqual(len(Program.read(row).costs), 60)
        check_raises(self, BadText(0, 60), Program.read, row + " 1")
        check_raises(self, BadText(0, 60), Program.read, row + " 1 / x")
        condition = " / 1 just 1"
        full = "1" + condition * 60
        self.assertEqual(len(Program.read(full).conditions), 60)
        check_raises(self, BadText(0, 241), Program.read, full + " /")
        check_raises(self, BadText(0, 241), Program.read, full + condition)
        wide = row + (" / " + row + " least 0") * 60
        self.assertEqual(str(Program.read(wide)), wide)


if __name__ == "__main__":
    unittest.main()
