import random
import unittest

from baysout.errors import BadPoint, Misfit
from baysout.points import do_meet, side_of
from tests.makers import GREAT, NO_POINTS, Case
from tests.oracles import common_points


class Sides(Case):
    def test_each_side(self):
        for one, other, point, told in (
            ((0, 0), (0, 5), (-1, 2), 1), ((0, 0), (0, 5), (0, 99), 0), ((0, 0), (0, 5), (1, 2), -1),
            ((0, 5), (0, 0), (-1, 2), -1), ((3, 1), (1, 2), (1, 1), 1), ((3, 1), (1, 2), (-1, 3), 0),
            ((3, 1), (1, 2), (3, 2), -1), ((0, 0), (1, 0), (0, 0), 0), ((0, 0), (1, 0), (1, 0), 0),
        ):
            self.assertEqual(side_of(one, other, point), told)
            self.assertIs(type(side_of(list(one), list(other), list(point))), int)

    def test_great_integers(self):
        one, other = (-GREAT, -GREAT), (GREAT, GREAT + 1)
        self.assertEqual(side_of(one, other, (0, 0)), -1)
        self.assertEqual(side_of(one, other, (0, 1)), 1)
        self.assertEqual(side_of(one, other, (3 * GREAT, 3 * GREAT + 2)), 0)

    def test_by_name(self):
        self.assertEqual(side_of(point=(1, 1), one=(0, 0), other=[4, 0]), 1)

    def test_no_points(self):
        for value in NO_POINTS:
            self.raises(BadPoint, ("one",), side_of, value, (1, 1), (2, 2))
            self.raises(BadPoint, ("other",), side_of, (1, 1), value, (2, 2))
            self.raises(BadPoint, ("point",), side_of, (1, 1), (3, 2), value)
            self.raises(BadPoint, ("one",), side_of, value, value, value)
            self.raises(BadPoint, ("other",), side_of, (1, 1), value, value)

    def test_misfit_comes_last(self):
        self.raises(Misfit, ("other",), side_of, (1, 1), [1, 1], (2, 2))
        self.raises(Misfit, ("other",), side_of, [GREAT, 0], (GREAT, 0), (GREAT, 0))
        self.raises(BadPoint, ("point",), side_of, (1, 1), (1, 1), None)


class Stretches(Case):
    def test_by_hand(self):
        for one, other, third, fourth, told in (
            ((0, 0), (4, 4), (0, 4), (4, 0), True),          # they cross
            ((0, 0), (4, 0), (4, 0), (4, 9), True),          # touch at both ends
            ((0, 0), (4, 0), (2, 0), (2, 5), True),          # touch within
            ((0, 0), (4, 0), (2, 1), (2, 5), False),
            ((0, 0), (4, 0), (5, -1), (5, 1), False),        # beyond an end
            ((0, 0), (4, 0), (3, 0), (9, 0), True),          # on one line, with points in common
            ((0, 0), (4, 0), (4, 0), (9, 0), True),
            ((0, 0), (4, 0), (5, 0), (9, 0), False),         # on one line, without
            ((0, 0), (9, 0), (2, 0), (3, 0), True),          # one within the other
            ((0, 0), (4, 4), (5, 5), (7, 7), False),
            ((0, 0), (4, 4), (0, 1), (4, 5), False),         # side by side
            ((2, 2), (2, 2), (0, 0), (4, 4), True),          # ends that are one point
            ((2, 3), (2, 3), (0, 0), (4, 4), False),
            ((5, 5), (5, 5), (0, 0), (4, 4), False),         # on the line, but beyond the end
            ((2, 2), (2, 2), (2, 2), (2, 2), True),
            ((2, 2), (2, 2), (2, 3), (2, 3), False),
            ((0, 0), (6, 3), (0, 3), (2, 2), False),         # boxes meet, stretches don't
        ):
            for first, second in (((one, other), (third, fourth)), ((third, fourth), (one, other))):
                for pair in (first, first[::-1]):
                    for twin in (second, second[::-1]):
                        self.assertIs(do_meet(*pair, *twin), told, (pair, twin))

    def test_all_ways_about_by_fractions(self):
        numbers = random.Random(3)
        for _ in range(4000):
            size = numbers.choice((2, 3, 6))
            spots = [(numbers.randint(0, size), numbers.randint(0, size)) for _ in range(4)]
            self.assertIs(do_meet(*spots), bool(common_points(*spots)), spots)

    def test_great_integers(self):
        self.assertIs(do_meet((-GREAT, 0), (GREAT, 1), (0, 0), (0, 1)), True)
        self.assertIs(do_meet((-GREAT, 0), (GREAT, 1), (1, 1), (0, 1)), False)
        self.assertIs(do_meet((0, 0), (3 * GREAT, GREAT), (3 * GREAT - 3, GREAT - 1), (0, GREAT)), True)
        self.assertIs(do_meet((0, 0), (3 * GREAT, GREAT), (3 * GREAT - 4, GREAT - 1), (0, GREAT)), False)

    def test_lists_and_names(self):
        self.assertIs(do_meet([0, 0], [4, 0], [1, 1], [1, -3]), True)
        self.assertIs(do_meet(fourth=(1, -3), third=(1, 1), other=(4, 0), one=(0, 0)), True)

    def test_no_points(self):
        names = ("one", "other", "third", "fourth")
        for value in NO_POINTS:
            for at, name in enumerate(names):
                spots = [(0, 0), (1, 0), (2, 0), (3, 0)]
                spots[at] = value
                self.raises(BadPoint, (name,), do_meet, *spots)
                spots[at:] = [value] * (4 - at)
                self.raises(BadPoint, (name,), do_meet, *spots)


if __name__ == "__main__":
    unittest.main()
