import copy
import random
import unittest

from baysout.errors import BadFence, BadPoint
from baysout.fences import Fence, points_of, where
from tests.makers import (
    COMB, GREAT, HOOK, NO_POINTS, NOTCH, RULED, SQUARE, TUB, Case, comb_corners, fence_or_none, fences_of_all_kinds,
    slanted, spiral_corners,
)
from tests.oracles import box_of, is_fence_row, place_of


class Making(Case):
    def test_attributes(self):
        square = Fence(SQUARE)
        self.assertEqual(square.corners, SQUARE)
        self.assertEqual((square.many, square.area2), (4, 32))
        self.assertEqual(square.sides, ((4, 0), (0, 4), (-4, 0), (0, -4)))
        self.assertEqual([Fence(corners).area2 for corners in (NOTCH, COMB, TUB, RULED)], [24, 26, 56, 72])
        self.assertEqual(Fence(((-GREAT, 0), (GREAT, 0), (0, GREAT))).area2, 2 * GREAT * GREAT)

    def test_all_kinds(self):
        for fence in fences_of_all_kinds():
            self.assertTrue(is_fence_row(fence.corners), fence.corners)
            self.assertIs(type(fence.corners), tuple)
            self.assertIs(type(fence.sides), tuple)
            self.assertEqual({type(pair) for pair in fence.corners + fence.sides}, {tuple})
            self.assertEqual((fence.many, len(fence.sides)), (len(fence.corners), len(fence.corners)))
            self.assertEqual([sum(x for x, _ in fence.sides), sum(y for _, y in fence.sides)], [0, 0])
            for at, (x, y) in enumerate(fence.sides):
                one, other = fence.corners[at], fence.corners[(at + 1) % fence.many]
                self.assertEqual((one[0] + x, one[1] + y), other)

    def test_lists_and_tuples_alike(self):
        for corners in (list(NOTCH), [list(corner) for corner in NOTCH], tuple([list(corner) for corner in NOTCH])):
            self.assertEqual(Fence(corners).corners, NOTCH)
            self.assertTrue(Fence(corners=corners) == Fence(NOTCH))

    def test_what_was_passed_stays_and_is_not_held(self):
        row = [list(corner) for corner in NOTCH]
        kept = copy.deepcopy(row)
        fence = Fence(row)
        self.assertEqual(row, kept)
        row[3][0] = 1
        row.append([0, 1])
        self.assertEqual((fence.corners, fence.many, str(fence)), (NOTCH, 5, "0 0 / 4 0 / 4 4 / 2 2 / 0 4"))

    def test_fences_by_hand(self):
        for corners in (
            ((0, 0), (1, 0), (0, 1)),                                    # the least of all
            ((0, 0), (2, 0), (4, 0), (4, 4), (0, 4), (0, 2)),            # straight corners
            ((2, 0), (4, 0), (0, 4), (0, 0)),                            # corner 0 is one
            ((0, 0), (1, 0), (2, 0), (3, 0), (0, 1)),
            ((0, 0), (9, 0), (9, 9), (1, 1), (1, 8), (0, 9)),
            HOOK, slanted(HOOK),
        ):
            self.assertEqual(Fence(corners).corners, tuple(corners))

    def test_no_fences_by_hand(self):
        for corners in (
            (), ((0, 0),), ((0, 0), (1, 0)),
            ((0, 0), (2, 0), (1, 0)), ((0, 0), (1, 1), (2, 2)),         # on one line
            ((0, 0), (4, 0), (4, 4), (0, 0)), ((0, 0), (4, 0), (4, 0), (0, 4)),
            ((0, 0), (4, 0), (2, 2), (0, 4), (2, 2)),                    # a corner twice
            ((0, 0), (4, 0), (0, 4), (4, 4)),                            # crosses itself
            ((0, 0), (4, 0), (4, 4), (2, 0), (0, 4)),                    # a corner on another side
            ((0, 0), (4, 0), (4, 4), (1, -1), (0, 4)),
            ((0, 0), (4, 0), (4, 4), (4, 2), (0, 4)),                    # straight back
            ((0, 0), (6, 0), (3, 0), (0, 4)), ((3, 0), (0, 4), (0, 0), (6, 0)),
            ((0, 0), (6, 0), (6, 4), (5, 4), (5, 0), (4, 0), (4, 4), (0, 4)),    # sides on one another
            ((0, 0), (0, 4), (4, 4), (4, 0)), ((0, 0), (0, 1), (1, 0)),  # the land at the right hand
            ((0, 0), (3, 3), (6, 0), (6, 6), (3, 3), (0, 6)),
        ):
            self.assertFalse(is_fence_row(corners), corners)
            self.raises(BadFence, ("corners",), Fence, corners)
            self.raises(BadFence, ("corners",), Fence, [list(corner) for corner in corners])
            for at in range(1, len(corners)):
                self.raises(BadFence, ("corners",), Fence, corners[at:] + corners[:at])
        self.raises(BadFence, ("corners",), Fence, ([0, 0], (0, 0), (4, 0), (0, 4)))

    def test_the_other_way_round_is_none(self):
        for fence in fences_of_all_kinds():
            self.raises(BadFence, ("corners",), Fence, fence.corners[::-1])

    def test_random_rows(self):
        numbers, found = random.Random(11), 0
        for _ in range(3000):
            many, size = numbers.choice((3, 4, 4, 5, 6)), numbers.choice((2, 3, 5))
            row = tuple((numbers.randint(0, size), numbers.randint(0, size)) for _ in range(many))
            self.assertEqual(fence_or_none(row) is not None, is_fence_row(row), row)
            found += fence_or_none(row) is not None
        self.assertGreater(found, 200)

    def test_fences_with_a_corner_elsewhere(self):
        numbers = random.Random(12)
        for fence in fences_of_all_kinds():
            for _ in range(4):
                row, at = list(fence.corners), numbers.randrange(fence.many)
                row[at] = (row[at][0] + numbers.randint(-3, 3), row[at][1] + numbers.randint(-3, 3))
                self.assertEqual(fence_or_none(row) is not None, is_fence_row(row), row)

    def test_how_many_corners(self):
        rim = [(x, 0) for x in range(199)] + [(x, 1) for x in range(200, -1, -1)]
        self.assertEqual(len(rim), 400)
        self.assertEqual(Fence(rim).many, 400)
        self.raises(BadFence, ("corners",), Fence, [(x, 0) for x in range(200)] + rim[199:])
        self.raises(BadFence, ("corners",), Fence, rim[:2])
        self.raises(BadFence, ("corners",), Fence, [(0, 0)] * 1000)

    def test_no_lists_of_points(self):
        rows = {"a": 1}, set(SQUARE), "0 0 / 4 0 / 4 4", Fence(SQUARE), iter(SQUARE), range(3), None, 4, True, b"abc"
        for value in rows:
            self.raises(BadFence, ("corners",), Fence, value)
        for value in NO_POINTS:
            for at in range(4):
                self.raises(BadFence, ("corners",), Fence, SQUARE[:at] + (value,) + SQUARE[at:])
                self.raises(BadFence, ("corners",), Fence, list(SQUARE[:at]) + [value] + list(SQUARE[at + 1:]))

    def test_great_numbers(self):
        great = 10 ** 5000
        fence = Fence([(x * great, y * great) for x, y in HOOK])
        self.assertEqual(fence.area2, Fence(HOOK).area2 * great * great)
        near = ((0, 0), (GREAT, 0), (GREAT, GREAT), (GREAT - 1, 1), (0, 1))
        self.assertEqual(Fence(near).many, 5)
        self.raises(BadFence, ("corners",), Fence, near[:3] + ((GREAT - 1, 0), (0, 1)))
        self.raises(BadFence, ("corners",), Fence, near[:3] + ((GREAT - 1, -1), (0, 1)))

    def test_equal(self):
        self.assertTrue(Fence(NOTCH) == Fence(list(NOTCH)))
        self.assertFalse(Fence(NOTCH) != Fence(NOTCH))
        begun = NOTCH[1:] + NOTCH[:1]
        for other in (Fence(begun), Fence(SQUARE), NOTCH, str(Fence(NOTCH)), None, 5, True):
            self.assertIs(Fence(NOTCH) == other, False)
            self.assertIs(other == Fence(NOTCH), False)
            self.assertIs(Fence(NOTCH) != other, True)

    def test_short_time(self):
        for row in (comb_corners(400, 9), slanted(comb_corners(400, 10 ** 6)), spiral_corners(199)):
            self.assertEqual(len(row), 400)
            self.assertEqual(self.is_short(Fence, row).many, 400)
        self.is_short(Fence, slanted(comb_corners(400, 10 ** 6), 10 ** 130))
        crossed = slanted(comb_corners(400, 10 ** 6))
        crossed[200], crossed[201] = crossed[201], crossed[200]
        self.is_short(fence_or_none, crossed)


class Places(Case):
    def test_by_hand(self):
        for corners, point, told in (
            (NOTCH, (2, 1), "within"), (NOTCH, (2, 2), "rim"), (NOTCH, (2, 3), "off"), (NOTCH, (0, 2), "rim"),
            (NOTCH, (0, 0), "rim"), (NOTCH, (3, 3), "rim"), (NOTCH, (1, 2), "within"), (NOTCH, (2, 4), "off"),
            (NOTCH, (-1, 2), "off"), (NOTCH, (5, 2), "off"), (NOTCH, (2, -1), "off"), (NOTCH, (2, 5), "off"),
            (NOTCH, (-1, 0), "off"), (NOTCH, (5, 0), "off"), (NOTCH, (-1, 4), "off"), (NOTCH, (9, 4), "off"),
            (RULED, (2, 0), "rim"), (RULED, (3, 0), "rim"), (RULED, (5, 0), "rim"), (RULED, (2, 1), "within"),
            (HOOK, (1, 3), "rim"), (HOOK, (1, 2), "off"), (HOOK, (6, 5), "rim"), (HOOK, (3, 5), "off"),
        ):
            self.assertEqual(where(Fence(corners), point), told, point)
            self.assertEqual(where(fence=Fence(corners), point=list(point)), told)

    def test_all_points_about_fences(self):
        for fence in fences_of_all_kinds():
            for point in box_of(fence.corners):
                self.assertEqual(where(fence, point), place_of(fence.corners, point), (fence.corners, point))

    def test_great_fences(self):
        fence = Fence([(x * GREAT, y * GREAT) for x, y in NOTCH])
        for point, told in (
            ((2 * GREAT, 2 * GREAT), "rim"), ((2 * GREAT, 2 * GREAT - 1), "within"),
            ((2 * GREAT, 2 * GREAT + 1), "off"),
            ((3 * GREAT + 1, 3 * GREAT + 1), "rim"), ((3 * GREAT + 1, 3 * GREAT), "within"),
            ((3 * GREAT, 3 * GREAT + 1), "off"), ((1, 1), "within"), ((-1, 0), "off"), ((1, 0), "rim"), ((0, 0), "rim"),
        ):
            self.assertEqual(where(fence, point), told, point)
        slim = Fence(((0, 0), (GREAT, GREAT + 1), (0, 1)))
        self.assertEqual([where(slim, (at, at)) for at in (0, 1, GREAT - 1, GREAT)], ["rim", "off", "off", "off"])
        along = [where(slim, (at, at + 1)) for at in (-1, 0, 1, GREAT, GREAT + 1)]
        self.assertEqual(along, ["off", "rim", "rim", "rim", "off"])

    def test_wrong_values(self):
        self.no_fence_first(where, None)
        self.no_fence_first(where, (0, 0))
        for value in NO_POINTS:
            self.raises(BadPoint, ("point",), where, Fence(NOTCH), value)

    def test_points_of_by_counting(self):
        for fence in fences_of_all_kinds():
            places = [place_of(fence.corners, point) for point in box_of(fence.corners, 0)]
            self.assertEqual(points_of(fence), (places.count("within"), places.count("rim")))

    def test_points_of_great_fences(self):
        many = 10 ** 12
        self.assertEqual(points_of(Fence([(x * many, y * many) for x, y in SQUARE])), ((4 * many - 1) ** 2, 16 * many))
        fence = Fence(((0, 0), (GREAT, 1), (1, GREAT)))
        within, rim = points_of(fence)
        self.assertEqual(rim, 2 + GREAT - 1)
        self.assertEqual(fence.area2, 2 * within + rim - 2)
        self.assertEqual(points_of(fence=Fence(((0, 0), (1, 0), (0, 1)))), (0, 3))

    def test_twice_the_area(self):
        for fence in fences_of_all_kinds():
            within, rim = points_of(fence)
            self.assertEqual(fence.area2, 2 * within + rim - 2)
            ring = list(zip(fence.corners, fence.corners[1:] + fence.corners[:1]))
            self.assertEqual(fence.area2, sum(x * d - c * y for (x, y), (c, d) in ring))

    def test_points_of_wants_a_fence(self):
        self.no_fence_first(points_of)

    def test_short_time(self):
        for row in (comb_corners(100, 10 ** 5), slanted(comb_corners(100, 10 ** 5), 7)):
            fence = Fence(row)
            self.is_short(lambda: [where(fence, (x * 999, x * 998)) for x in range(-50, 150)])
            self.is_short(points_of, fence)
        for row in (comb_corners(400, 10 ** 5), spiral_corners(199)):
            self.is_short(where, Fence(row), (3, 2))
            self.is_short(points_of, Fence(row))


if __name__ == "__main__":
    unittest.main()
