import unittest

from baysout.counts import at_most
from baysout.ends import end_of
from baysout.errors import BadNumber, Misfit, TooMany
from baysout.fences import Fence
from baysout.lifts import to_and_fro
from baysout.makes import comb, spiral, stairs, zigzag
from baysout.words import fence_of, word_of
from tests.makers import GREAT, NO_INTEGERS, Case
from tests.oracles import is_fence_row, rim_of_squares

MAKES = {spiral: "arms", stairs: "steps", zigzag: "points"}


def comb_squares(teeth, deep):
    """The unit squares of a comb: those of its back, and those of its teeth."""
    back = {(x, 0) for x in range(2 * teeth - 1)}
    return back | {(2 * tooth, y) for tooth in range(teeth) for y in range(deep + 1)}


def stairs_squares(steps):
    return {(x, y) for y in range(steps) for x in range(steps - y)}


def spiral_squares(arms):
    """The unit squares that the walker meets, one by one."""
    x, y, met = 0, 0, [(0, 0)]
    for arm in range(arms):
        along, up = ((1, 0), (0, 1), (-1, 0), (0, -1))[arm % 4]
        for _ in range((2, 2, 4, 4)[arm % 4] + 4 * (arm // 4)):
            x, y = x + along, y + up
            met.append((x, y))
    return met


def zigzag_corners(points):
    """The corners of a zigzag, its upper ones told from the left and put about."""
    upper = []
    for point in range(points):
        upper += [(2 * point + 1, 2), (2 * point + 2, 1)]
    return ((0, 0), (2 * points, 0), *upper[:-1][::-1])


class Corners(Case):
    def same(self, fence, corners):
        self.assertIs(type(fence), Fence)
        self.assertEqual(fence.corners, tuple(corners))
        self.assertTrue(fence == Fence(corners))

    def test_by_hand(self):
        self.same(comb(3, 2), ((0, 0), (5, 0), (5, 3), (4, 3), (4, 1), (3, 1), (3, 3), (2, 3), (2, 1), (1, 1), (1, 3),
                               (0, 3)))
        self.same(spiral(2), ((0, 0), (3, 0), (3, 3), (2, 3), (2, 1), (0, 1)))
        self.same(spiral(4), ((0, 0), (3, 0), (3, 3), (-2, 3), (-2, -2), (-1, -2), (-1, 2), (2, 2), (2, 1), (0, 1)))
        self.same(stairs(1), ((0, 0), (1, 0), (1, 1), (0, 1)))
        self.same(stairs(3), ((0, 0), (3, 0), (3, 1), (2, 1), (2, 2), (1, 2), (1, 3), (0, 3)))
        self.same(zigzag(3), ((0, 0), (6, 0), (5, 2), (4, 1), (3, 2), (2, 1), (1, 2)))

    def test_against_squares(self):
        for teeth in range(1, 9):
            for deep in (1, 2, 3, 7):
                self.same(comb(teeth=teeth, deep=deep), rim_of_squares(comb_squares(teeth, deep)))
        for many in range(1, 20):
            self.same(stairs(steps=many), rim_of_squares(stairs_squares(many)))
            self.same(spiral(arms=many), rim_of_squares(spiral_squares(many)))
            self.same(zigzag(points=many), zigzag_corners(many))
            for make in MAKES:
                self.assertIs(is_fence_row(make(many).corners), True)

    def test_least_and_greatest(self):
        self.same(comb(1, 1), ((0, 0), (1, 0), (1, 2), (0, 2)))
        self.same(comb(100, 5), rim_of_squares(comb_squares(100, 5)))
        self.same(comb(1, 1000000), ((0, 0), (1, 0), (1, 1000001), (0, 1000001)))
        high = comb(100, 1000000)
        self.assertEqual([high.many, high.corners[:6], high.corners[-1]], [400, (
            (0, 0), (199, 0), (199, 1000001), (198, 1000001), (198, 1), (197, 1)), (0, 1000001)])
        self.same(spiral(199), rim_of_squares(spiral_squares(199)))
        self.same(stairs(199), rim_of_squares(stairs_squares(199)))
        self.same(zigzag(199), zigzag_corners(199))
        self.assertEqual([spiral(199).many, stairs(199).many, zigzag(199).many], [400, 400, 399])


class Wrong(Case):
    def test_beyond_the_bounds(self):
        for make, part in MAKES.items():
            for value in (0, -1, 200, 201, GREAT, -GREAT) + NO_INTEGERS:
                self.raises(BadNumber, (part,), make, value)
                self.raises(BadNumber, (part,), make, **{part: value})
            for value in (1, 199):
                self.assertIsInstance(make(value), Fence)
        for value in (0, -1, 101, GREAT) + NO_INTEGERS:
            self.raises(BadNumber, ("teeth",), comb, value, 1)
            # Teeth come ahead of deep.
            for deep in (0, None, 1000001, "1"):
                self.raises(BadNumber, ("teeth",), comb, value, deep)
        for value in (0, -1, 1000001, GREAT) + NO_INTEGERS:
            for teeth in (1, 2, 100):
                self.raises(BadNumber, ("deep",), comb, teeth, value)
                self.raises(BadNumber, ("deep",), comb, deep=value, teeth=teeth)


class Facts(Case):
    def test_to_and_fro(self):
        for many in (1, 2, 3, 7, 20, 100):
            self.assertEqual([to_and_fro(comb(many, 3)), at_most(comb(many, 3))], [4 * many, 2 * many - 2])
        for many in (1, 2, 3, 4, 5, 20, 199):
            for make in (spiral, stairs):
                self.assertEqual([to_and_fro(make(many)), at_most(make(many))], [2 * many + 2, many - 1])
            self.assertEqual(at_most(zigzag(many)), many - 1)
            if many > 1:
                self.assertEqual(to_and_fro(zigzag(many)), 2 * many + 3)

    def test_fields_are_rectangles(self):
        for fence in (comb(1, 4), comb(2, 1), comb(5, 3), comb(25, 10 ** 5), spiral(1), spiral(2), spiral(7), spiral(30),
                      stairs(1), stairs(2), stairs(25)):
            east = sum(x for x, _ in fence.sides if x > 0)
            north = sum(y for _, y in fence.sides if y > 0)
            (a, b), *others = end_of(fence).corners
            self.assertEqual(others, [(a + east, b), (a + east, b + north), (a, b + north)])

    def test_words(self):
        for fence in (comb(1, 1), comb(2, 1), comb(4, 6), comb(20, 20), spiral(1), spiral(2), spiral(3), spiral(4),
                      spiral(20), stairs(1), stairs(2), stairs(199)):
            word = word_of(fence)
            self.assertTrue(fence_of(word) == fence)
            # None of them has a straight corner: so each letter that turns stands at a corner.
            self.assertEqual(len(word) - word.count("f"), fence.many - 1)
        for fence in (comb(1, 1000000), comb(100, 20), spiral(199)):
            self.raises(TooMany, ("letters", 2000), word_of, fence)
        for many in (1, 2, 30):
            self.raises(Misfit, ("fence",), word_of, zigzag(many))

    def test_short_time(self):
        for make in MAKES:
            self.is_short(make, 199)
        self.is_short(comb, 100, 1000000)


if __name__ == "__main__":
    unittest.main()
