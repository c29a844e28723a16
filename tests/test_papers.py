import unittest

from examples import run_examples

from planless.papers import Denial, Paper, fixed

EXAMPLES = """
>>> note = Paper("note", [1, (2, [3])])
>>> [note.parts, bool(note), bool(Denial("no")), note == Denial("note", [1, (2, [3])]), fixed([[], {"a": [1]}])]
[((1, (2, (3,))),), True, False, False, ((), {'a': [1]})]
"""


class Other(Paper):
    """A class of papers as other files of the package define them."""

    def __init__(self, number, book):
        Paper.__init__(self, "note", number, book)
        self.number, self.book = self.parts


class PapersTest(unittest.TestCase):
    def test_examples(self):
        run_examples(self, EXAMPLES, {"Paper": Paper, "Denial": Denial, "fixed": fixed})

    def test_classes(self):
        self.assertEqual(Paper.__bases__, (object,))
        self.assertEqual(Denial.__bases__, (Paper,))

    def test_word_and_parts(self):
        for made in (Paper, Denial):
            for word in ("note", "", None, 3, [1]):
                with self.subTest(word):
                    self.assertEqual(made(word).word, word)
                    self.assertEqual(made(word=word).word, word)
                    self.assertEqual(made(word).parts, ())
            self.assertEqual(made("note", 1, None, "x").parts, (1, None, "x"))
            self.assertIsInstance(made("note", [1]).parts, tuple)
            self.assertEqual(list(vars(made("note", 1))), ["word", "parts"])
            with self.assertRaises(TypeError):
                made()

    def test_truth(self):
        for parts in ((), (0,), (False,), (None, [])):
            self.assertIs(bool(Paper("note", *parts)), True)
            self.assertIs(bool(Paper("", *parts)), True)
            self.assertIs(bool(Denial("note", *parts)), False)
            self.assertIs(bool(Denial("best", 1, *parts)), False)
        self.assertIs(bool(Other(0, [])), True)

    def test_equal(self):
        for made in (Paper, Denial):
            self.assertIs(made("note", [1, [2]]) == made("note", (1, (2,))), True)
            self.assertIs(made("note", [1, [2]]) != made("note", (1, (2,))), False)
            self.assertIs(made("note", 1) == made("note", True), True)
            for other in (made("note"), made("note", 2), made("word", 1), made("note", 1, 1), made("note", (1,))):
                self.assertIs(made("note", 1) == other, False)
                self.assertIs(made("note", 1) != other, True)
            for value in (None, 1, "note", ("note", 1), ["note", (1,)], made, True, False):
                self.assertIs(made("note", 1) == value, False)
                self.assertIs(value == made("note", 1), False)

    def test_equal_only_in_one_class(self):
        told, denied, other = Paper("note", 1, 2), Denial("note", 1, 2), Other(1, 2)
        for one in (told, denied, other):
            for two in (told, denied, other):
                self.assertIs(one == two, one is two)
        self.assertIs(other == Other(book=2, number=1), True)
        self.assertIs(other == Other(2, 1), False)

    def test_not_equal_to_a_stranger_of_the_same_name(self):
        stranger = type("Paper", (), {"word": "note", "parts": (1,)})()
        self.assertIs(Paper("note", 1) == stranger, False)

    def test_parts_are_copied(self):
        inner = [2, [3]]
        passed = [1, inner]
        note = Paper("note", passed, inner)
        self.assertEqual(passed, [1, [2, [3]]])
        passed.append(4)
        inner[1].append(5)
        self.assertEqual(note.parts, ((1, (2, (3,))), (2, (3,))))
        other = Other([1, 2], inner)
        inner.append(6)
        self.assertEqual((other.number, other.book), ((1, 2), (2, (3, 5))))

    def test_fixed(self):
        table = {"a": [1]}
        for value in (0, True, None, "ab", b"ab", table, {1, 2}, Paper("note"), range(3), 0.5, fixed):
            with self.subTest(value):
                self.assertIs(fixed(value), value)
                self.assertIs(fixed([value])[0], value)
        self.assertEqual(table, {"a": [1]})
        self.assertEqual(fixed([]), ())
        self.assertEqual(fixed(()), ())
        self.assertEqual(fixed([1, (2, [3, ([], [4])])]), (1, (2, (3, ((), (4,))))))
        self.assertEqual(fixed(value=[1]), (1,))
        deep, wanted = 1, 1
        for _ in range(30):
            deep, wanted = [deep], (wanted,)
        self.assertEqual(fixed(deep), wanted)

    def test_fixed_changes_nothing(self):
        value = [1, [2, (3, [4])]]
        told = fixed(value)
        self.assertEqual(value, [1, [2, (3, [4])]])
        value[1][1][1].append(5)
        value.append(6)
        self.assertEqual(told, (1, (2, (3, (4,)))))


if __name__ == "__main__":
    unittest.main()
