import random
import unittest

from baysout.changed import begun, grown, moved, turned, with_corner
from baysout.errors import BadFence
from baysout.fences import Fence
from baysout.hulls import covers, hull_edges, hull_of, is_convex
from tests.makers import (
    COMB, GREAT, HOOK, NO_FENCES, NOTCH, RULED, SQUARE, TUB, Case, comb_corners, fences_of_all_kinds, slanted,
    spiral_corners,
)
from tests.oracles import box_of, cross, hull_numbers, is_covered, less, place_of


class Hulls(Case):
    def test_by_hand(self):
        for corners, hull in (
            (SQUARE, (0, 1, 2, 3)), (NOTCH, (0, 1, 2, 4)), (COMB, (0, 1, 2, 7)), (TUB, (0, 1, 2, 7)),
            (RULED, (2, 3, 4, 5)), (HOOK, (0, 1, 2, 3)),
            (COMB[3:] + COMB[:3], (4, 5, 6, 7)),                     # corner 0 within a bay
            (COMB[4:] + COMB[:4], (3, 4, 5, 6)),                     # corner 0 within a hull edge
            (COMB[1:] + COMB[:1], (0, 1, 6, 7)),
            (((0, 0), (4, 0), (0, 4)), (0, 1, 2)),
        ):
            fence = Fence(corners)
            self.assertEqual(hull_of(fence), hull)
            self.assertEqual(hull_edges(fence), tuple(zip(hull, hull[1:] + hull[:1])))

    def test_against_the_slow_way(self):
        for fence in fences_of_all_kinds():
            hull = hull_of(fence)
            self.assertEqual(hull, hull_numbers(fence.corners), fence.corners)
            self.assertEqual(hull, tuple(sorted(hull)))
            self.assertIs(type(hull), tuple)

    def test_all_lies_left_of_hull_edges(self):
        for fence in fences_of_all_kinds():
            edges = hull_edges(fence)
            self.assertEqual(edges, tuple(sorted(edges)))
            self.assertEqual({type(edge) for edge in edges}, {tuple})
            self.assertEqual(sorted(a for a, _ in edges), list(hull_of(fence)))
            for a, b in edges:
                base = less(fence.corners[b], fence.corners[a])
                self.assertTrue(all(cross(base, less(corner, fence.corners[a])) >= 0 for corner in fence.corners))

    def test_corners_on_an_edge_come_in_order(self):
        for fence in fences_of_all_kinds():
            for a, b in hull_edges(fence):
                start, base = fence.corners[a], less(fence.corners[b], fence.corners[a])
                row = [less(fence.corners[(a + k) % fence.many], start) for k in range((b - a) % fence.many + 1)]
                marks = [x * base[0] + y * base[1] for x, y in row if cross(base, (x, y)) == 0]
                self.assertEqual(marks, sorted(marks))

    def test_begun_elsewhere(self):
        for fence in fences_of_all_kinds()[:40]:
            for at in range(fence.many):
                wanted = tuple(sorted((number - at) % fence.many for number in hull_of(fence)))
                self.assertEqual(hull_of(begun(fence, at)), wanted)

    def test_great_numbers(self):
        fence = moved(grown(Fence(COMB), GREAT), (-GREAT * GREAT, 7))
        self.assertEqual(hull_of(fence), (0, 1, 2, 7))
        self.assertEqual(hull_of(fence=Fence(((0, 0), (GREAT, -1), (2 * GREAT, 0), (GREAT, 1)))), (0, 1, 2, 3))
        self.assertEqual(hull_of(Fence(((0, 0), (GREAT, 1), (2 * GREAT, 0), (GREAT, 2)))), (0, 2, 3))

    def test_convex(self):
        for corners, told in ((SQUARE, True), (NOTCH, False), (RULED, True), (COMB, False), (HOOK, False),
                              (((0, 0), (1, 0), (0, 1)), True)):
            for at in range(len(corners)):
                self.assertIs(is_convex(Fence(corners[at:] + corners[:at])), told)
        for fence in fences_of_all_kinds():
            straight = sum(cross(fence.sides[at - 1], fence.sides[at]) == 0 for at in range(fence.many))
            self.assertIs(is_convex(fence=fence), len(hull_of(fence)) + straight == fence.many)

    def test_fences_wanted(self):
        for function in (hull_of, hull_edges, is_convex):
            self.no_fence_first(function)


class Covering(Case):
    def told(self, one, other, told):
        for quarters in range(4):
            self.assertIs(covers(turned(one, quarters), turned(other, quarters)), told, (one.corners, other.corners))

    def test_by_hand(self):
        square, notch, comb, tub, hook = [Fence(row) for row in (SQUARE, NOTCH, COMB, TUB, HOOK)]
        box = Fence(((0, 0), (1, 0), (1, 1), (0, 1)))
        for one, other, told in (
            (square, square, True), (square, notch, True), (notch, square, False), (notch, notch, True),
            (square, begun(square, 2), True), (square, with_corner(square, 0, (2, 0)), True),
            (square, moved(notch, (1, 0)), False), (square, moved(square, (4, 0)), False),
            (square, moved(square, (5, 0)), False), (square, moved(square, (4, 4)), False),
            (square, moved(square, (2, 2)), False), (square, grown(square, 2), False), (grown(square, 2), square, True),
            (square, moved(box, (1, 1)), True), (square, moved(box, (3, 3)), True), (square, moved(box, (3, 4)), False),
            (square, moved(box, (0, 1)), True), (moved(box, (1, 1)), square, False),
            (tub, moved(grown(box, 2), (2, 3)), False),               # within a bay of the other
            (tub, moved(grown(box, 2), (2, 2)), False), (tub, moved(grown(box, 2), (2, 0)), True),
            (tub, Fence(((0, 0), (6, 0), (6, 6), (0, 6))), False),    # all its corners are on the land
            (tub, Fence(((0, 6), (0, 0), (6, 0), (6, 6))), False),
            (tub, Fence(((0, 1), (6, 1), (6, 6), (4, 2), (2, 2), (0, 6))), True),
            (tub, Fence(((2, 0), (4, 0), (4, 2), (2, 2))), True),
            (tub, Fence(((1, 1), (5, 1), (5, 5), (4, 5), (4, 2), (2, 2), (2, 5), (1, 5))), True),
            (tub, Fence(((0, 4), (1, 1), (5, 1), (6, 4))), False),
            (comb, Fence(((0, 0), (6, 0), (5, 1), (2, 1))), True),
            (comb, Fence(((0, 0), (6, 0), (6, 3), (0, 3))), False),
            (comb, Fence(((2, 1), (4, 1), (4, 3), (3, 3))), True),
            (comb, Fence(((2, 0), (4, 0), (4, 3), (2, 3))), False),
            (hook, hook, True), (Fence(((0, 0), (10, 0), (10, 10), (0, 10))), hook, True), (hook, square, False),
            # A corner of one on a side of the other, the land on either side of it.
            (Fence(((0, 0), (8, 0), (8, 8), (4, 4), (0, 8))), Fence(((1, 4), (2, 1), (6, 1), (7, 4))), True),
            (Fence(((0, 0), (8, 0), (8, 8), (4, 4), (0, 8))), Fence(((1, 5), (2, 1), (6, 1), (7, 5))), False),
            (Fence(((0, 0), (8, 0), (8, 8), (4, 4), (0, 8))), Fence(((2, 4), (2, 1), (6, 3), (6, 4))), True),
        ):
            self.told(one, other, told)

    def test_great_numbers(self):
        one = grown(Fence(NOTCH), GREAT)
        self.told(one, Fence(((0, 0), (1, 0), (2 * GREAT, 2 * GREAT), (0, 1))), True)
        near = Fence(((0, 0), (1, 0), (2 * GREAT, 2 * GREAT + 1), (0, 1)))
        self.told(one, near, False)
        self.told(one, grown(near, 2), False)

    def test_small_fences_by_fractions(self):
        numbers, found = random.Random(8), 0
        fences = [fence for fence in fences_of_all_kinds() if max(max(corner) for corner in fence.corners) <= 9]
        for _ in range(1500):
            one, other = numbers.choice(fences), numbers.choice(fences)
            other = moved(other, (numbers.randint(-1, 3), numbers.randint(-1, 3)))
            if numbers.random() < 0.5:
                one = grown(one, 2)
            told = is_covered(one.corners, other.corners)
            self.assertIs(covers(one, other), told, (one.corners, other.corners))
            found += told
        self.assertGreater(found, 30)

    def test_itself_its_hull_and_parts(self):
        for fence in fences_of_all_kinds():
            hull = Fence([fence.corners[at] for at in hull_of(fence)])
            self.assertIs(covers(fence, fence), True)
            self.assertIs(covers(fence, begun(fence, fence.many // 2)), True)
            self.assertIs(covers(hull, fence), True)
            self.assertIs(covers(fence, hull), fence.area2 == hull.area2)

    def test_points_of_covered_land(self):
        fences = fences_of_all_kinds()[13::5]
        for one in fences:
            for other in fences:
                if covers(one, other):
                    for point in box_of(other.corners, 0):
                        if place_of(other.corners, point) != "off":
                            self.assertNotEqual(place_of(one.corners, point), "off")

    def test_both_wrong_the_first_is_told(self):
        for value in NO_FENCES:
            self.raises(BadFence, ("one",), covers, value, Fence(SQUARE))
            self.raises(BadFence, ("other",), covers, Fence(SQUARE), value)
            self.raises(BadFence, ("one",), covers, value, value)
        self.raises(BadFence, ("one",), covers, other=None, one=5)
        self.assertIs(covers(other=Fence(NOTCH), one=Fence(SQUARE)), True)

    def test_short_time(self):
        for row in (comb_corners(100, 10 ** 5), slanted(comb_corners(100, 10 ** 5), 3), spiral_corners(49)):
            fence = grown(Fence(row), 5)
            self.assertEqual(fence.many, 100)
            for function in (hull_of, hull_edges, is_convex):
                self.is_short(function, fence)
            self.assertIs(self.is_short(covers, fence, fence), True)
            self.assertIs(self.is_short(covers, fence, moved(fence, (1, 1))), False)


if __name__ == "__main__":
    unittest.main()
