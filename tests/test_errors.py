import copy
import unittest

from planless import errors

FIELDS = {
    "BadNumber": ["part"],
    "BadPiece": ["part"],
    "BadFrame": ["part"],
    "BadBook": ["part"],
    "BadProgram": ["part"],
    "BadPlayer": ["part"],
    "BadPaper": ["part"],
    "Misfit": ["part"],
    "NoWay": ["value"],
    "NoPart": ["value"],
    "TooMany": ["what", "most"],
    "Impossible": ["paper"],
    "BadText": ["line", "item"],
}
VALUES = [0, True, None, "reach", (1, [2, 3]), [1], {"a": 1}, 10 ** 5000, object(), ValueError("x")]


class ErrorsTest(unittest.TestCase):
    def test_bases(self):
        self.assertEqual(errors.PlayError.__bases__, (ValueError,))
        for name in FIELDS:
            with self.subTest(name):
                self.assertEqual(getattr(errors, name).__bases__, (errors.PlayError,))

    def test_no_other_errors(self):
        found = [name for name, value in vars(errors).items() if isinstance(value, type)]
        self.assertEqual(sorted(found), sorted(["PlayError", *FIELDS]))

    def test_fields_by_place(self):
        for name, fields in FIELDS.items():
            for value in VALUES:
                with self.subTest(name):
                    passed = [value, *VALUES][:len(fields)]
                    error = getattr(errors, name)(*passed)
                    self.assertEqual(list(vars(error)), fields)
                    for field, kept in zip(fields, passed):
                        self.assertIs(getattr(error, field), kept)

    def test_fields_by_name(self):
        for name, fields in FIELDS.items():
            for value in VALUES:
                with self.subTest(name):
                    passed = dict(zip(fields, [value, *VALUES]))
                    error = getattr(errors, name)(**passed)
                    self.assertEqual(list(vars(error)), fields)
                    for field in fields:
                        self.assertIs(getattr(error, field), passed[field])

    def test_fields_are_wanted(self):
        for name, fields in FIELDS.items():
            with self.subTest(name):
                with self.assertRaises(TypeError):
                    getattr(errors, name)()
                with self.assertRaises(TypeError):
                    getattr(errors, name)(*VALUES[:len(fields) + 1])

    def test_order_of_fields(self):
        many = errors.TooMany("places", 120)
        self.assertEqual((many.what, many.most), ("places", 120))
        text = errors.BadText(0, 3)
        self.assertEqual((text.line, text.item), (0, 3))

    def test_a_list_is_kept_as_it_was_passed(self):
        way = [0, [1]]
        self.assertIs(errors.NoWay(way).value, way)
        self.assertEqual(way, [0, [1]])

    def test_raised_and_caught(self):
        for name, fields in FIELDS.items():
            with self.subTest(name):
                for caught in (getattr(errors, name), errors.PlayError, ValueError):
                    with self.assertRaises(caught):
                        raise getattr(errors, name)(*VALUES[:len(fields)])
        for name in FIELDS:
            for other in FIELDS:
                self.assertEqual(issubclass(getattr(errors, name), getattr(errors, other)), name == other)

    def test_copied(self):
        again = copy.copy(errors.TooMany("levels", 10))
        self.assertEqual((again.what, again.most), ("levels", 10))


if __name__ == "__main__":
    unittest.main()
