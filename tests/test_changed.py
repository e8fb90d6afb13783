import unittest

from baysout.changed import begun, grown, mirrored, moved, straightened, turned, with_corner, without_corner
from baysout.errors import BadNumber, BadPoint, Misfit, TooMany
from baysout.fences import Fence
from tests.makers import (
    GREAT, NO_INTEGERS, NO_POINTS, NOTCH, RULED, SQUARE, Case, comb_corners, fences_of_all_kinds, slanted,
    spiral_corners,
)

# 400 corners: two long rows of straight ones.
RIM = tuple([(2 * x, 0) for x in range(199)] + [(2 * x, 1) for x in range(200, -1, -1)])


class Whole(Case):
    def test_moved(self):
        for by in ((0, 0), (3, -2), [1, 1], (GREAT, -GREAT), (-1, 0)):
            for fence in fences_of_all_kinds():
                there = moved(fence, by)
                self.assertEqual(there.corners, tuple((x + by[0], y + by[1]) for x, y in fence.corners))
                self.assertEqual((there.sides, there.area2), (fence.sides, fence.area2))
        self.assertEqual(moved(by=(1, 0), fence=Fence(SQUARE)).corners, ((1, 0), (5, 0), (5, 4), (1, 4)))

    def test_turned(self):
        for fence in fences_of_all_kinds():
            row = fence.corners
            rows = [row, [(-y, x) for x, y in row], [(-x, -y) for x, y in row], [(y, -x) for x, y in row]]
            for quarters in (0, 1, 2, 3, 4, 5, -1, -2, -3, -4, 7, -7, GREAT + 1, -GREAT - 1, 4 * GREAT, 10 ** 5000):
                self.assertEqual(turned(fence, quarters).corners, tuple(rows[quarters % 4]))
        self.assertEqual(turned(quarters=1, fence=Fence(SQUARE)).corners, ((0, 0), (0, 4), (-4, 4), (-4, 0)))

    def test_mirrored(self):
        for fence in fences_of_all_kinds():
            there = mirrored(fence)
            for at in range(fence.many):
                x, y = fence.corners[-at]
                self.assertEqual(there.corners[at], (-x, y))
            self.assertEqual(there.area2, fence.area2)
            self.assertTrue(mirrored(there) == fence)
        self.assertEqual(mirrored(fence=Fence(RULED)).corners[:3], ((-2, 0), (-1, 0), (0, 0)))

    def test_begun(self):
        for fence in fences_of_all_kinds():
            for at in range(fence.many):
                self.assertEqual(begun(fence, at).corners, fence.corners[at:] + fence.corners[:at])
            self.assertTrue(begun(fence, 0) == fence)
        self.assertEqual(begun(at=3, fence=Fence(NOTCH)).corners[0], (2, 2))

    def test_grown(self):
        for fence in fences_of_all_kinds():
            for factor in (1, 2, 7, GREAT):
                there = grown(fence, factor)
                self.assertEqual(there.corners, tuple((x * factor, y * factor) for x, y in fence.corners))
                self.assertEqual(there.area2, fence.area2 * factor * factor)
            self.assertTrue(grown(fence, 1) == fence)
        self.assertEqual(grown(factor=2, fence=Fence(SQUARE)).corners[2], (8, 8))

    def test_straightened(self):
        self.assertEqual(straightened(Fence(RULED)).corners, ((6, 0), (6, 6), (0, 6), (0, 0)))
        self.assertEqual(straightened(Fence(NOTCH)).corners, NOTCH)
        self.assertEqual(straightened(Fence(RIM)).corners, ((0, 0), (396, 0), (400, 1), (0, 1)))
        self.assertEqual(straightened(fence=Fence(((1, 1), (0, 2), (0, 0), (2, 0)))).corners, ((0, 2), (0, 0), (2, 0)))
        for fence in fences_of_all_kinds():
            there = straightened(fence)
            self.assertEqual(there.area2, fence.area2)
            self.assertTrue(straightened(there) == there)
            left = [at for at in range(fence.many) if is_bent(fence, at)]
            self.assertEqual(there.corners, tuple(fence.corners[at] for at in left))

    def test_fences_wanted(self):
        for function, more in ((moved, (None,)), (turned, (None,)), (mirrored, ()), (begun, (-1,)), (grown, (0,)),
                               (straightened, ()), (with_corner, (None, None)), (without_corner, (None,))):
            self.no_fence_first(function, *more)

    def test_wrong_values(self):
        for value in NO_POINTS:
            self.raises(BadPoint, ("by",), moved, Fence(NOTCH), value)
        for value in NO_INTEGERS:
            self.raises(BadNumber, ("quarters",), turned, Fence(NOTCH), value)
            self.raises(BadNumber, ("at",), begun, Fence(NOTCH), value)
            self.raises(BadNumber, ("factor",), grown, Fence(NOTCH), value)
        for value in (-1, 5, 6, -5, GREAT, -GREAT):
            self.raises(BadNumber, ("at",), begun, Fence(NOTCH), value)
        for value in (0, -1, -GREAT):
            self.raises(BadNumber, ("factor",), grown, Fence(NOTCH), value)

    def test_what_was_passed_stays(self):
        fence, by = Fence(RULED), [1, 2]
        for function, more in ((moved, (by,)), (turned, (1,)), (mirrored, ()), (begun, (2,)), (grown, (2,)),
                               (straightened, ()), (with_corner, (2, [6, 0])), (without_corner, (0,))):
            try:
                function(fence, *more)
            except Misfit:
                pass
            self.assertEqual((fence.corners, fence.many, by), (RULED, 7, [1, 2]))


def is_bent(fence, at):
    (a, b), (c, d) = fence.sides[at - 1], fence.sides[at]
    return a * d != b * c


class Corners(Case):
    def test_on_each_side(self):
        for fence in fences_of_all_kinds():
            fence = grown(fence, 6)
            for at in range(fence.many):
                (x, y), (a, b) = fence.corners[at], fence.sides[at]
                for part in (1, 2, 3, 5):
                    point = (x + a * part // 6, y + b * part // 6)
                    more = with_corner(fence, at, point)
                    self.assertEqual(more.corners, fence.corners[:at + 1] + (point,) + fence.corners[at + 1:])
                    self.assertEqual((more.many, more.area2), (fence.many + 1, fence.area2))
                    self.assertTrue(without_corner(more, at + 1) == fence)

    def test_not_on_a_side(self):
        for fence in fences_of_all_kinds():
            fence = grown(fence, 6)
            for at in range(fence.many):
                (x, y), (a, b) = fence.corners[at], fence.sides[at]
                for point in ((x, y), (x + a, y + b), (x - a // 6, y - b // 6), (x + a + a // 6, y + b + b // 6),
                              (x + a // 2 - b // 6, y + b // 2 + a // 6), (x + a // 2 + b, y + b // 2 - a)):
                    self.raises(Misfit, ("point",), with_corner, fence, at, point)

    def test_where_it_stands(self):
        square = Fence(SQUARE)
        self.assertEqual(with_corner(square, 3, (0, 1)).corners, SQUARE + ((0, 1),))
        self.assertEqual(with_corner(square, 0, [1, 0]).corners, ((0, 0), (1, 0), (4, 0), (4, 4), (0, 4)))
        self.assertEqual(with_corner(point=(4, 3), at=1, fence=square).corners[2], (4, 3))
        self.raises(Misfit, ("point",), with_corner, square, 1, (1, 0))
        self.raises(Misfit, ("point",), with_corner, square, 0, (9, 0))
        self.raises(Misfit, ("point",), with_corner, square, 0, [4, 0])
        far = moved(grown(square, GREAT), (GREAT, 1))
        self.assertEqual(with_corner(far, 0, (GREAT + 1, 1)).many, 5)
        self.raises(Misfit, ("point",), with_corner, far, 0, (GREAT + 1, 2))

    def test_400_corners(self):
        fence = Fence(RIM[:-1])
        self.assertEqual(fence.many, 399)
        self.assertEqual(with_corner(fence, 0, (1, 0)).many, 400)
        self.assertEqual(with_corner(fence, 397, (3, 1)).corners[-3:], ((4, 1), (3, 1), (2, 1)))
        full = Fence(RIM)
        self.raises(TooMany, ("corners", 400), with_corner, full, 0, (1, 0))
        self.raises(Misfit, ("point",), with_corner, full, 0, (2, 0))
        self.raises(BadPoint, ("point",), with_corner, full, 0, None)
        self.raises(BadNumber, ("at",), with_corner, full, 400, (1, 0))
        self.assertEqual(without_corner(full, 1).many, 399)

    def test_without_straight_corners(self):
        ruled = Fence(RULED)
        self.assertEqual(without_corner(ruled, 0).corners, RULED[1:])
        self.assertEqual(without_corner(ruled, 1).corners, RULED[:1] + RULED[2:])
        self.assertEqual(without_corner(ruled, 6).corners, RULED[:-1])
        self.assertEqual(without_corner(at=6, fence=ruled).corners, RULED[:-1])
        for at in (2, 3, 4, 5):
            self.raises(Misfit, ("at",), without_corner, ruled, at)
        for fence in fences_of_all_kinds():
            for at in range(fence.many):
                if is_bent(fence, at):
                    self.raises(Misfit, ("at",), without_corner, fence, at)
                else:
                    self.assertEqual(without_corner(fence, at).corners, fence.corners[:at] + fence.corners[at + 1:])

    def test_wrong_values_the_first_is_told(self):
        fence = Fence(NOTCH)
        for value in NO_INTEGERS + (-1, 5, GREAT, -GREAT):
            self.raises(BadNumber, ("at",), with_corner, fence, value, (1, 0))
            self.raises(BadNumber, ("at",), with_corner, fence, value, value)
            self.raises(BadNumber, ("at",), without_corner, fence, value)
        for value in NO_POINTS:
            self.raises(BadPoint, ("point",), with_corner, fence, 0, value)

    def test_short_time(self):
        for row in (RIM, comb_corners(400, 9), slanted(comb_corners(400, 10 ** 6)), spiral_corners(199)):
            fence = Fence(row)
            for function, more in ((moved, ((1, 2),)), (turned, (3,)), (mirrored, ()), (begun, (200,)),
                                   (grown, (10 ** 6,)), (straightened, ())):
                self.is_short(function, fence, *more)
        self.is_short(with_corner, Fence(RIM[:-1]), 0, (1, 0))
        self.is_short(without_corner, Fence(RIM), 1)


if __name__ == "__main__":
    unittest.main()
