import random
import unittest

from baysout.changed import begun, grown, moved
from baysout.errors import BadMouth
from baysout.fences import Fence
from baysout.hulls import covers, is_convex
from baysout.mouths import bay_area2, first_mouths, mouths_of
from baysout.turnings import turned_out
from tests.makers import COMB, GREAT, NO_POINTS, NOTCH, TUB, Case, comb_corners, fences_of_all_kinds, slanted
from tests.oracles import is_fence_row


def by_the_document(fence, p, q):
    """The corners behind a turning, corner by corner as [6] tells."""
    many, row = fence.many, list(fence.corners)
    length = q - p if p < q else q + many - p
    (a, b), (c, d) = fence.corners[p], fence.corners[q]
    for i in range(length + 1):
        x, y = fence.corners[(q - i) % many]
        row[(p + i) % many] = (a + c - x, b + d - y)
    return tuple(row)


class Turnings(Case):
    def test_by_hand(self):
        self.assertEqual(turned_out(Fence(NOTCH), (2, 4)).corners, ((0, 0), (4, 0), (4, 4), (2, 6), (0, 4)))
        self.assertEqual(turned_out(begun(Fence(NOTCH), 3), [4, 1]).corners,
                         ((2, 6), (0, 4), (0, 0), (4, 0), (4, 4)))
        self.assertEqual(turned_out(mouth=(2, 4), fence=Fence(COMB)).corners, COMB[:3] + ((5, 5),) + COMB[4:])
        # The stretch is 7, 0, 1, 2: corner 0 moves.
        there = turned_out(begun(Fence(COMB), 3), (7, 2))
        self.assertEqual(there.corners, ((5, 3), (4, 5), (3, 3), (2, 1), (0, 3), (0, 0), (6, 0), (6, 3)))

    def test_corner_by_corner(self):
        over = 0
        for fence in fences_of_all_kinds():
            for p, q in mouths_of(fence):
                there = turned_out(fence, (p, q))
                self.assertEqual(there.corners, by_the_document(fence, p, q))
                self.assertEqual((there.many, there.corners[p], there.corners[q]),
                                 (fence.many, fence.corners[p], fence.corners[q]))
                over += q < p
        self.assertGreater(over, 20)

    def test_what_comes(self):
        for fence in fences_of_all_kinds():
            for mouth in mouths_of(fence):
                there = turned_out(fence, mouth)
                self.assertTrue(is_fence_row(there.corners))
                self.assertEqual(there.area2, fence.area2 + 2 * bay_area2(fence, mouth))
                self.assertTrue(covers(there, fence))
                self.assertEqual(sorted(there.sides), sorted(fence.sides))
                self.assertTrue(there == turned_out(fence, list(mouth)))

    def test_sides_of_the_stretch_the_other_way_about(self):
        for fence in fences_of_all_kinds():
            for p, q in mouths_of(fence):
                there = turned_out(fence, (p, q))
                length = (q - p) % fence.many
                for k in range(fence.many):
                    source = (q - 1 - k) % fence.many if k < length else (p + k) % fence.many
                    self.assertEqual(there.sides[(p + k) % fence.many], fence.sides[source])

    def test_begun_elsewhere_and_moved(self):
        for corners in (COMB, TUB):
            for at in range(len(corners)):
                there = begun(Fence(corners), at)
                for p, q in mouths_of(Fence(corners)):
                    pair = ((p - at) % len(corners), (q - at) % len(corners))
                    self.assertTrue(turned_out(there, pair) == begun(turned_out(Fence(corners), (p, q)), at))
        far = moved(grown(Fence(COMB), GREAT), (-GREAT, 3))
        self.assertTrue(turned_out(far, (2, 7)) == moved(grown(turned_out(Fence(COMB), (2, 7)), GREAT), (-GREAT, 3)))

    def test_whoever_goes_on_comes_to_an_end(self):
        numbers = random.Random(4)
        for fence in fences_of_all_kinds():
            ends = []
            for choose in (first_mouths, mouths_of, mouths_of):
                there, many = fence, 0
                while not is_convex(there):
                    there = turned_out(there, numbers.choice(choose(there)))
                    many += 1
                    self.assertLess(many, 2000)
                ends.append((there.area2, sorted(there.sides), min(there.corners)))
            self.assertEqual(ends[1:], ends[:1] * 2)

    def test_the_fence_that_was_passed_stays(self):
        for fence in fences_of_all_kinds()[:30]:
            corners, sides, area2 = fence.corners, fence.sides, fence.area2
            for mouth in mouths_of(fence):
                pair = list(mouth)
                turned_out(fence, pair)
                self.assertEqual((fence.corners, fence.sides, fence.area2, pair), (corners, sides, area2, list(mouth)))

    def test_wrong_values(self):
        self.no_fence_first(turned_out, None)
        self.no_fence_first(turned_out, (2, 4))
        fence = Fence(TUB)
        for p in range(-1, 10):
            for q in range(-1, 10):
                if (p, q) not in ((2, 6), (2, 7), (3, 6), (3, 7)):
                    self.raises(BadMouth, ("mouth",), turned_out, fence, (p, q))
        for value in NO_POINTS + ((2, 6, 7), "26", (2.0, 6), ((2, 6),), (GREAT, 6)):
            self.raises(BadMouth, ("mouth",), turned_out, fence, value)
        self.raises(BadMouth, ("mouth",), turned_out, begun(Fence(COMB), 3), (True, 4))
        # Turned out it is no mouth any more.
        self.raises(BadMouth, ("mouth",), turned_out, turned_out(Fence(NOTCH), (2, 4)), (2, 4))

    def test_short_time(self):
        for row in (comb_corners(100, 10 ** 5), slanted(comb_corners(100, 10 ** 5), 3), comb_corners(400, 10 ** 5)):
            fence = Fence(row)
            for mouth in (mouths_of(fence)[0], mouths_of(fence)[-1], first_mouths(fence)[0]):
                self.is_short(turned_out, fence, mouth)


if __name__ == "__main__":
    unittest.main()
