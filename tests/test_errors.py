import unittest

import baysout.errors
from baysout.errors import FenceError

FIELDS = {
    "BadNumber": ("part",), "BadPoint": ("part",), "BadFence": ("part",), "BadMouth": ("part",),
    "BadFilm": ("part",), "BadWord": ("part",), "BadName": ("part",), "BadPaper": ("part",),
    "Misfit": ("part",), "NoName": ("value",), "Twice": ("value",), "TooMany": ("what", "most"),
    "BadText": ("line", "item"), "BadLine": ("line", "error"),
}
CLASSES = {name: getattr(baysout.errors, name) for name in FIELDS}
VALUES = (
    None, True, 0, -7, 10 ** 30000, -(10 ** 5000), "", "corners", "x" * 20000, b"ab", 1.5, [], [1, [2, "3"]],
    (1, (2,)), {"a": [1]}, {1, 2}, object(), ValueError("inner"), FenceError, "{} {braces}",
)


class Errors(unittest.TestCase):
    def test_just_these_classes_directly_below(self):
        self.assertEqual(FenceError.__bases__, (ValueError,))
        there = {name for name, value in vars(baysout.errors).items() if isinstance(value, type)}
        self.assertEqual(there, set(FIELDS) | {"FenceError"})
        for name, error in CLASSES.items():
            self.assertEqual(error.__bases__, (FenceError,), name)

    def test_fields_are_kept_by_place_and_by_name(self):
        for name, fields in FIELDS.items():
            for at, value in enumerate(VALUES):
                worth = [VALUES[(at + k) % len(VALUES)] for k in range(len(fields))]
                for made in (CLASSES[name](*worth), CLASSES[name](**dict(zip(fields, worth)))):
                    self.assertEqual(tuple(vars(made)), fields)
                    for field, kept in zip(fields, worth):
                        self.assertIs(getattr(made, field), kept)

    def test_names_in_any_order(self):
        error = CLASSES["TooMany"](most=400, what="corners")
        self.assertEqual((error.what, error.most), ("corners", 400))
        error = CLASSES["BadText"](item=5, line=0)
        self.assertEqual((error.line, error.item), (0, 5))
        inner = CLASSES["BadMouth"]("mouth")
        error = CLASSES["BadLine"](error=inner, line=3)
        self.assertEqual((error.line, error.error), (3, inner))

    def test_a_list_stays_the_same_list(self):
        row = [1, [2]]
        error = CLASSES["Twice"](row)
        row.append(3)
        self.assertIs(error.value, row)
        self.assertEqual(error.value, [1, [2], 3])

    def test_of_no_other_class(self):
        for name, fields in FIELDS.items():
            made = CLASSES[name](*[1 for _ in fields])
            of = {other for other, error in CLASSES.items() if isinstance(made, error)}
            self.assertEqual(of, {name})
            self.assertIsInstance(made, FenceError)
            self.assertIsInstance(made, ValueError)
            self.assertNotIsInstance(made, (UnicodeError, LookupError, ArithmeticError))

    def test_raised_caught_and_told(self):
        for name, fields in FIELDS.items():
            for value in VALUES:
                for kind in (CLASSES[name], FenceError, ValueError):
                    try:
                        raise CLASSES[name](*[value for _ in fields])
                    except kind as error:
                        self.assertIs(getattr(error, fields[-1]), value)
                        self.assertIsInstance(str(error) + repr(error), str)

    def test_too_few_and_too_many_fields(self):
        for name, fields in FIELDS.items():
            for worth in ([1] * (len(fields) - 1), [1] * (len(fields) + 1)):
                with self.assertRaises(TypeError):
                    CLASSES[name](*worth)


if __name__ == "__main__":
    unittest.main()
