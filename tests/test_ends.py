import random
import unittest

from baysout.changed import begun, grown, mirrored, moved, straightened, turned, with_corner
from baysout.ends import Ended, end_of, ended, sorted_row, way_in, width_in
from baysout.errors import BadPoint, TooMany
from baysout.fences import Fence
from baysout.films import film_out, stages
from baysout.hulls import covers, is_convex
from baysout.mouths import first_mouths, mouths_of
from baysout.outlines import turn_at
from baysout.papers import Denial, Paper
from tests.makers import (
    COMB, GREAT, NO_POINTS, NOTCH, RULED, SQUARE, Case, comb_corners, fences_of_all_kinds, fence_or_none,
    film_by, narrow_film, slanted, spiral_corners, swinging_corners,
)
from tests.oracles import field_by_places, sorted_places

# A way that winds inward, as the document has it.
CURL = ((0, 0), (5, 0), (5, 5), (1, 5), (1, 2), (3, 2), (3, 3), (2, 3), (2, 4), (4, 4), (4, 1), (0, 1))


def from_least(fence):
    """The corners of a fence without its straight ones, begun at the least one."""
    corners = straightened(fence).corners
    at = corners.index(min(corners))
    return corners[at:] + corners[:at]


class Rows(Case):
    def test_by_hand(self):
        self.assertEqual(sorted_row(Fence(SQUARE)), ((0, 0), ((4, 0), (0, 4), (-4, 0), (0, -4))))
        # Begun at the upper right corner it is in order, too: west, south, east, north.
        self.assertEqual(sorted_row(begun(Fence(SQUARE), 2)), ((4, 4), ((-4, 0), (0, -4), (4, 0), (0, 4))))
        self.assertEqual(sorted_row(Fence(NOTCH)), ((0, 0), ((4, 0), (0, 4), (-2, 2), (-2, -2), (0, -4))))
        # Corner 0 in the bay: side 0 is (-2, 2) there, and side 4, (-2, -2), comes from ahead of it.
        self.assertEqual(sorted_row(begun(Fence(NOTCH), 3)), ((2, 6), ((-2, -2), (0, -4), (4, 0), (0, 4), (-2, 2))))
        self.assertEqual(sorted_places(begun(Fence(NOTCH), 3).corners), [-1, 1, 2, 3, 5])
        self.assertEqual(sorted_places(CURL), [-3, 0, 2, 4, 7, 10, 13, 11, 8, 5, 3, 6])
        self.assertEqual(sorted_row(fence=Fence(RULED))[0], (2, 0))

    def test_against_a_slow_way(self):
        below = 0
        for fence in fences_of_all_kinds():
            for at in range(fence.many):
                there = begun(fence, at)
                told, field = field_by_places(there.corners)
                self.assertEqual(sorted_row(there), told)
                self.assertEqual(end_of(there).corners, field)
                below += min(sorted_places(there.corners)) < 0
        self.assertGreater(below, 100)

    def test_winding_inward(self):
        for arms in (1, 2, 3, 4, 7, 10, 15):
            fence = Fence(spiral_corners(arms))
            for at in range(fence.many):
                there = begun(fence, at)
                told, field = field_by_places(there.corners)
                self.assertEqual(sorted_row(there), told)
                self.assertEqual(end_of(there).corners, field)

    def test_kinds(self):
        told = sorted_row(Fence(COMB))
        self.assertEqual([type(told), type(told[0]), type(told[1])], [tuple] * 3)
        self.assertEqual({type(side) for side in told[1]}, {tuple})
        self.assertIsInstance(end_of(fence=Fence(COMB)), Fence)

    def test_fences_wanted(self):
        for function in (sorted_row, end_of, ended):
            self.no_fence_first(function)


class Fields(Case):
    def test_convex_without_straight_corners_from_the_least_one(self):
        for fence in fences_of_all_kinds():
            field = end_of(fence)
            self.assertTrue(all(turn_at(field.corners, at) > 0 for at in range(field.many)))
            self.assertEqual(field.corners[0], min(field.corners))
            self.assertIs(covers(field, fence), True)
            self.assertTrue(end_of(field) == field)

    def test_every_film_that_ends_leaves_it(self):
        numbers = random.Random(10)
        for fence in fences_of_all_kinds():
            field = end_of(fence)
            for choose in (first_mouths, mouths_of, mouths_of, mouths_of):
                told = stages(fence, film_by(fence, choose, numbers))
                self.assertIs(is_convex(told[-1]), True)
                self.assertEqual(from_least(told[-1]), field.corners)
                for stage in told:
                    self.assertTrue(end_of(stage) == field)
                    self.assertIs(covers(field, stage), True)

    def test_no_order_of_the_sides_has_a_greater_land(self):
        numbers = random.Random(11)
        for fence in fences_of_all_kinds():
            sides, most = list(fence.sides), end_of(fence).area2
            for _ in range(5):
                numbers.shuffle(sides)
                spots = [(0, 0)]
                for x, y in sides[:-1]:
                    spots.append((spots[-1][0] + x, spots[-1][1] + y))
                other = fence_or_none(spots)
                self.assertTrue(other is None or other.area2 <= most)

    def test_begun_elsewhere_and_straight_corners(self):
        for fence in fences_of_all_kinds():
            field = end_of(fence)
            self.assertTrue(end_of(straightened(fence)) == field)
            for at in range(fence.many):
                self.assertTrue(end_of(begun(fence, at)) == field)
                corner, side = fence.corners[at], fence.sides[at]
                point = (2 * corner[0] + side[0], 2 * corner[1] + side[1])
                # The middle of a side is a whole point where all is twice as great.
                self.assertTrue(end_of(with_corner(grown(fence, 2), at, point)) == grown(field, 2))

    def test_moved_turned_mirrored_grown(self):
        for fence in fences_of_all_kinds():
            field = end_of(fence)
            for by in ((3, -7), (-GREAT, GREAT + 1)):
                self.assertTrue(end_of(moved(fence, by)) == moved(field, by))
            for quarters in (1, 2, 3):
                self.assertEqual(end_of(turned(fence, quarters)).corners, from_least(turned(field, quarters)))
            self.assertEqual(end_of(mirrored(fence)).corners, from_least(mirrored(field)))
            self.assertTrue(end_of(grown(fence, GREAT)) == grown(field, GREAT))

    def test_short_time(self):
        for row in (comb_corners(100, 10 ** 5), slanted(comb_corners(100, 10 ** 5), 3), spiral_corners(49),
                    comb_corners(400, 10 ** 5), spiral_corners(199), swinging_corners(3, 3)):
            for function in (sorted_row, end_of):
                self.is_short(function, Fence(row))


class Widths(Case):
    def test_by_hand(self):
        curl = Fence(CURL)
        self.assertEqual([way_in(curl, (1, 0)), width_in(curl, (1, 0))], [18, 5])
        self.assertEqual([way_in(curl, (0, 1)), width_in(curl, (0, 1))], [14, 5])
        self.assertEqual([way_in(Fence(NOTCH), (1, 1)), width_in(Fence(NOTCH), (1, 1))], [16, 8])
        self.assertEqual([way_in(Fence(NOTCH), [2, -1]), width_in(Fence(NOTCH), [2, -1])], [8 + 4 + 6 + 2 + 4, 12])
        self.assertEqual([way_in(by=(0, 0), fence=curl), width_in(by=(0, 0), fence=curl)], [0, 0])

    def test_width_of_the_field_is_half_the_way(self):
        numbers = random.Random(12)
        for fence in fences_of_all_kinds():
            points = [(0, 0), (1, 0), (0, -1), (GREAT, -GREAT - 1)]
            points += [(numbers.randint(-9, 9), numbers.randint(-9, 9)) for _ in range(6)]
            for by in points:
                way = way_in(fence, by)
                self.assertEqual(way, sum(abs(by[0] * x + by[1] * y) for x, y in fence.sides))
                measures = [by[0] * x + by[1] * y for x, y in fence.corners]
                self.assertEqual(width_in(fence, by), max(measures) - min(measures))
                self.assertEqual(2 * width_in(end_of(fence), by), way)
                self.assertEqual(way_in(end_of(fence), by), way)

    def test_wrong_values(self):
        for function in (way_in, width_in):
            for by in ((1, 0), None, (1, True)):
                self.no_fence_first(function, by)
            for value in NO_POINTS:
                self.raises(BadPoint, ("by",), function, Fence(NOTCH), value)


class Endings(Case):
    def test_papers(self):
        told = Ended([[0, 0], (1, 2)], film=[[1, 2]])
        self.assertEqual([told.word, told.parts, told.field, told.film, bool(told)],
                         ["ended", (((0, 0), (1, 2)), ((1, 2),)), ((0, 0), (1, 2)), ((1, 2),), True])
        self.assertTrue(Ended(film=((1, 2),), field=((0, 0), (1, 2))) == told)
        self.assertFalse(Ended(None, ((1, 2),)) == told)
        self.assertFalse(Paper("ended", *told.parts) == told)
        self.assertEqual(Ended.__bases__, (Paper,))
        self.assertNotIsInstance(told, Denial)
        self.assertEqual(Ended({"a": [1]}, "b").field, {"a": [1]})

    def test_ended(self):
        for fence in fences_of_all_kinds():
            told = ended(fence)
            self.assertIs(type(told), Ended)
            self.assertEqual(told.parts, (end_of(fence).corners, film_out(fence)))
            self.assertTrue(ended(fence=Fence(fence.corners)) == told)

    def test_too_many_turnings(self):
        self.assertEqual(ended(Fence(swinging_corners(8, 4))).field, end_of(Fence(swinging_corners(8, 4))).corners)
        self.raises(TooMany, ("turnings", 1000), ended, Fence(swinging_corners(3, 3)))

    def test_short_time(self):
        for row in (comb_corners(100, 10 ** 5), slanted(comb_corners(100, 10 ** 5), 3), spiral_corners(49)):
            self.is_short(ended, Fence(row))
        told, _ = narrow_film()
        self.is_short(end_of, Fence(told[0]))


if __name__ == "__main__":
    unittest.main()
