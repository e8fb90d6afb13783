import unittest

from baysout.checks import is_integer, is_point, is_within
from tests.makers import GREAT, NO_INTEGERS, NO_POINTS


class Checks(unittest.TestCase):
    def test_integers(self):
        for value in (0, 1, -1, 7, GREAT, -GREAT, 10 ** 30000):
            self.assertIs(is_integer(value), True)
        for value in NO_INTEGERS:
            self.assertIs(is_integer(value), False, value)
        self.assertIs(is_integer(value=3), True)

    def test_within_bounds(self):
        for value, least, most, told in (
            (3, 3, 3, True), (2, 3, 5, False), (3, 3, 5, True), (5, 3, 5, True), (6, 3, 5, False), (4, 5, 3, False),
            (-GREAT, None, 0, True), (0, None, 0, True), (1, None, 0, False),
            (GREAT, 0, None, True), (0, 0, None, True), (-1, 0, None, False),
            (GREAT, None, None, True), (-GREAT, None, None, True), (0, None, None, True),
            (GREAT, GREAT, GREAT, True), (GREAT + 1, GREAT, GREAT, False), (GREAT - 1, GREAT, GREAT, False),
            (GREAT - 1, -GREAT, GREAT, True), (-GREAT - 1, -GREAT, GREAT, False),
        ):
            self.assertIs(is_within(value, least, most), told, (value, least, most))
        self.assertIs(is_within(most=9, value=9, least=0), True)

    def test_within_is_for_integers_alone(self):
        for value in NO_INTEGERS:
            for least, most in ((None, None), (0, 1), (0, None), (None, 1)):
                self.assertIs(is_within(value, least, most), False, value)

    def test_points(self):
        for value in ((0, 0), [0, 0], (-1, 5), [GREAT, -GREAT], (10 ** 30000, 1)):
            self.assertIs(is_point(value), True)
        for value in NO_POINTS:
            self.assertIs(is_point(value), False, value)
        self.assertIs(is_point(value=[1, 2]), True)

    def test_truths_are_no_numbers_of_a_point(self):
        for value in ((True, 1), (1, False), [True, True], (0.0, 1), (1, None), ("1", "2"), ([1], 2)):
            self.assertIs(is_point(value), False, value)


if __name__ == "__main__":
    unittest.main()
