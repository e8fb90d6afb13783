import unittest

from baysout.changed import begun, grown, moved, turned
from baysout.errors import BadMouth
from baysout.fences import Fence
from baysout.hulls import hull_edges, hull_of, is_convex
from baysout.mouths import bay_area2, first_mouths, mouths_of, stretch_of
from tests.makers import (
    COMB, GREAT, HOOK, NO_POINTS, NOTCH, RULED, SQUARE, TUB, Case, comb_corners, fences_of_all_kinds, slanted,
    spiral_corners,
)
from tests.oracles import all_mouths

# On its lower edge: a bay, two neighbours, a bay, a straight corner, the end; another bay to the right.
SHORE = ((0, 0), (1, 2), (2, 0), (3, 0), (4, 2), (5, 0), (6, 0), (7, 0), (5, 4), (7, 8), (0, 8))


def counted_on(corners, at):
    return corners[at:] + corners[:at]


class Mouths(Case):
    def test_by_hand(self):
        for corners, mouths, first in (
            (SQUARE, (), ()), (RULED, (), ()), (NOTCH, ((2, 4),), ((2, 4),)),
            (COMB, ((2, 4), (2, 5), (2, 7), (4, 7), (5, 7)), ((2, 4),)),
            (TUB, ((2, 6), (2, 7), (3, 6), (3, 7)), ((2, 6),)),
            (SHORE, ((0, 2), (0, 3), (0, 5), (0, 6), (0, 7), (2, 5), (2, 6), (2, 7), (3, 5), (3, 6), (3, 7), (7, 9)),
             ((0, 2), (7, 9))),
            (counted_on(NOTCH, 3), ((4, 1),), ((4, 1),)),            # the stretch goes over corner 0
            (counted_on(COMB, 3), ((1, 4), (2, 4), (7, 1), (7, 2), (7, 4)), ((7, 1),)),
            (counted_on(COMB, 4), ((0, 3), (1, 3), (6, 0), (6, 1), (6, 3)), ((6, 0),)),
            (HOOK, ((3, 0), (3, 13), (4, 0), (4, 13)), ((3, 13),)),
        ):
            fence = Fence(corners)
            self.assertEqual((mouths_of(fence), first_mouths(fence)), (mouths, first))
            self.assertEqual((mouths_of(fence=fence), first_mouths(fence=fence)), all_mouths(corners))

    def test_against_the_slow_way(self):
        found = 0
        for fence in fences_of_all_kinds():
            mouths, first = all_mouths(fence.corners)
            self.assertEqual((mouths_of(fence), first_mouths(fence)), (mouths, first), fence.corners)
            found += len(mouths) > len(first)
            for row in (mouths_of(fence), first_mouths(fence)):
                self.assertIs(type(row), tuple)
                self.assertLessEqual({type(pair) for pair in row}, {tuple})
        self.assertGreater(found, 20)

    def test_at_every_corner_begun(self):
        for corners in (NOTCH, COMB, TUB, SHORE, HOOK, tuple(comb_corners(20, 3))):
            for at in range(len(corners)):
                fence = begun(Fence(corners), at)
                self.assertEqual((mouths_of(fence), first_mouths(fence)), all_mouths(fence.corners))

    def test_no_mouth_just_at_convex_fences(self):
        for fence in fences_of_all_kinds():
            self.assertEqual(mouths_of(fence) == (), is_convex(fence))
            self.assertEqual(first_mouths(fence) == (), is_convex(fence))
            self.assertLessEqual(set(first_mouths(fence)), set(mouths_of(fence)))
            self.assertLessEqual({p for p, _ in first_mouths(fence)}, set(hull_of(fence)))

    def test_slanted_and_great(self):
        for corners in (COMB, TUB, SHORE):
            for fence in (Fence(slanted(corners, 3)), grown(Fence(corners), GREAT), turned(Fence(corners), 2),
                          moved(Fence(corners), (-GREAT, 5))):
                self.assertEqual(mouths_of(fence), mouths_of(Fence(corners)))
                self.assertEqual(first_mouths(fence), first_mouths(Fence(corners)))

    def test_fences_wanted(self):
        for function, more in ((mouths_of, ()), (first_mouths, ()), (stretch_of, (None,)), (bay_area2, (None,)),
                               (stretch_of, ((2, 4),)), (bay_area2, ((2, 4),))):
            self.no_fence_first(function, *more)


class Stretches(Case):
    def test_stretches(self):
        for fence in fences_of_all_kinds():
            for p, q in mouths_of(fence):
                wanted, at = [p], p
                while at != q:
                    at = (at + 1) % fence.many
                    wanted.append(at)
                self.assertEqual(stretch_of(fence, (p, q)), tuple(wanted))
                self.assertEqual(stretch_of(mouth=[p, q], fence=fence), tuple(wanted))
        self.assertEqual(stretch_of(begun(Fence(COMB), 3), [7, 2]), (7, 0, 1, 2))
        self.assertEqual(stretch_of(begun(Fence(COMB), 4), (6, 0)), (6, 7, 0))

    def test_bays(self):
        for corners, mouth, area2 in (
            (NOTCH, (2, 4), 8), (COMB, (2, 4), 4), (COMB, (2, 5), 4), (COMB, (2, 7), 10), (COMB, (4, 7), 6),
            (COMB, (5, 7), 6), (TUB, (3, 6), 16), (TUB, (2, 7), 16), (SHORE, (0, 2), 4), (SHORE, (0, 7), 8),
            (SHORE, (2, 5), 4), (SHORE, (3, 7), 4), (SHORE, (7, 9), 16),
        ):
            self.assertEqual(bay_area2(Fence(corners), mouth), area2)
            self.assertEqual(bay_area2(mouth=list(mouth), fence=grown(Fence(corners), GREAT)), area2 * GREAT * GREAT)

    def test_bays_are_what_the_hull_has_more(self):
        for fence in fences_of_all_kinds():
            hull = Fence([fence.corners[at] for at in hull_of(fence)])
            whole = [pair for pair in hull_edges(fence) if pair in mouths_of(fence)]
            self.assertEqual(sum(bay_area2(fence, pair) for pair in whole), hull.area2 - fence.area2)
            for mouth in mouths_of(fence):
                self.assertGreater(bay_area2(fence, mouth), 0)

    def test_no_mouths(self):
        for corners in (COMB, counted_on(COMB, 3), SHORE, TUB, SQUARE):
            fence = Fence(corners)
            mouths = mouths_of(fence)
            pairs = [(p, q) for p in range(-2, fence.many + 3) for q in range(-2, fence.many + 3)]
            for pair in pairs:
                if pair not in mouths:
                    self.raises(BadMouth, ("mouth",), stretch_of, fence, pair)
                    self.raises(BadMouth, ("mouth",), bay_area2, fence, list(pair))

    def test_values_that_are_no_pairs(self):
        # (1, 4) is a mouth: so True must not stand for 1.
        fence = begun(Fence(COMB), 3)
        self.assertEqual(stretch_of(fence, (1, 4)), (1, 2, 3, 4))
        for value in NO_POINTS + (
            (True, 4), [True, 4], (1.0, 4), "14", "1 4", (1, 4, 4), (1,), ((1, 4),), (-7, 4), (9, 12), (1, 12),
            (GREAT, 4), (None, 4), {1: 4, 4: 1},
        ):
            self.raises(BadMouth, ("mouth",), stretch_of, fence, value)
            self.raises(BadMouth, ("mouth",), bay_area2, fence, value)
        zero = begun(Fence(COMB), 4)
        self.assertEqual(stretch_of(zero, (0, 3)), (0, 1, 2, 3))
        self.raises(BadMouth, ("mouth",), stretch_of, zero, (False, 3))

    def test_what_was_passed_stays(self):
        mouth, fence = [2, 4], Fence(COMB)
        stretch_of(fence, mouth)
        bay_area2(fence, mouth)
        self.assertEqual((mouth, fence.corners), ([2, 4], COMB))

    def test_short_time(self):
        for row in (comb_corners(100, 10 ** 5), slanted(comb_corners(100, 10 ** 5), 3), spiral_corners(49),
                    comb_corners(400, 10 ** 5)):
            fence = Fence(row)
            mouths = self.is_short(mouths_of, fence)
            self.is_short(first_mouths, fence)
            for mouth in (mouths[0], mouths[-1]):
                self.is_short(stretch_of, fence, mouth)
                self.is_short(bay_area2, fence, mouth)


if __name__ == "__main__":
    unittest.main()
