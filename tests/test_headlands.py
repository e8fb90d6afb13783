import random
import unittest

from baysout.changed import begun, grown, mirrored, moved, turned
from baysout.ends import end_of
from baysout.errors import BadMouth, TooMany
from baysout.fences import Fence
from baysout.films import film_out, played, stages
from baysout.headlands import headlands, turned_in
from baysout.mouths import bay_area2, mouths_of
from baysout.turnings import turned_out
from tests.makers import (
    COMB, GREAT, HOOK, NO_POINTS, NOTCH, RULED, SQUARE, TUB, Case, comb_corners, fence_or_none, fences_of_all_kinds,
    film_by, slanted, spiral_corners,
)
from tests.oracles import all_headlands, put_half_round

HOUSE = ((0, 0), (4, 0), (4, 4), (2, 6), (0, 4))
# Tub, its mouth (3, 6) turned out.
HAT = TUB[:4] + ((4, 10), (2, 10)) + TUB[6:]
# Convex, 30 corners; and a straight one more, on the last side.
ROUND = [(2 * x, 2 * x * x) for x in range(15)] + [(30 - 2 * x, 492 - 2 * x * x) for x in range(15)]
MORE = ROUND + [(1, 50)]


def tried(fence):
    """All headlands: each pair is tried, with the fences and the mouths of the package."""
    found = []
    for p in range(fence.many):
        for q in range(fence.many):
            other = fence_or_none(put_half_round(fence.corners, p, q))
            if p != q and other is not None and (p, q) in mouths_of(other):
                found.append((p, q))
    return tuple(found)


def fences_with_headlands():
    """Fences of all kinds, and what comes of some of them when mouths are turned out."""
    numbers, fences = random.Random(21), []
    for fence in fences_of_all_kinds():
        if fence.many <= 14:
            told = stages(fence, film_by(fence, mouths_of, numbers))
            fences += [told[0], told[len(told) // 2], told[-1]]
    return fences


class Headlands(Case):
    def test_by_hand(self):
        for corners, wanted in (
            (HOUSE, ((1, 3), (2, 4), (3, 0))), (NOTCH, ()), (((0, 0), (3, 0), (0, 2)), ()), (SQUARE, ()),
            (((0, 0), (9, 0), (9, 2), (0, 2)), ()), (((0, 3), (2, 0), (5, 2), (3, 5)), ()),
            # One that is not convex: by both of them comes tub.
            (HAT, ((2, 7), (3, 6))),
        ):
            self.assertEqual(headlands(fence=Fence(corners)), wanted)
            self.assertEqual(all_headlands(corners), wanted)

    def test_each_pair_put_half_round(self):
        over, convex = 0, 0
        for fence in fences_with_headlands():
            told = headlands(fence)
            self.assertEqual(told, tried(fence))
            self.assertIs(type(told), tuple)
            self.assertLessEqual({type(pair) for pair in told}, {tuple})
            over += any(p > q for p, q in told)
            convex += bool(told) and not mouths_of(fence)
        self.assertGreater(over, 50)
        self.assertGreater(convex, 30)

    def test_against_the_slow_way(self):
        found = 0
        for fence in fences_with_headlands():
            if fence.many <= 7:
                wanted = all_headlands(fence.corners)
                self.assertEqual(headlands(fence), wanted)
                found += len(wanted)
        self.assertGreater(found, 60)

    def test_begun_at_every_corner(self):
        for corners in (HOUSE, HAT, turned_out(Fence(TUB), (2, 6)).corners, turned_out(Fence(COMB), (2, 7)).corners):
            told = headlands(Fence(corners))
            self.assertTrue(told)
            for at in range(len(corners)):
                there = [((p - at) % len(corners), (q - at) % len(corners)) for p, q in told]
                self.assertEqual(headlands(begun(Fence(corners), at)), tuple(sorted(there)))

    def test_moved_grown_turned_mirrored(self):
        for fence in fences_with_headlands()[::3]:
            told, many = headlands(fence), fence.many
            for other in (moved(fence, (-GREAT, 7)), grown(fence, GREAT), turned(fence, 1), turned(fence, 2)):
                self.assertEqual(headlands(other), told)
            self.assertEqual(headlands(mirrored(fence)), tuple(sorted((-q % many, -p % many) for p, q in told)))

    def test_triangles_and_rectangles_have_none(self):
        numbers = random.Random(22)
        for _ in range(60):
            spots = [(numbers.randint(0, 9), numbers.randint(0, 9)) for _ in range(3)]
            fence = fence_or_none(spots) or fence_or_none(spots[::-1])
            if fence is not None:
                self.assertEqual(headlands(fence), ())
            a, b, c, d = [numbers.randint(1, 9) for _ in range(4)]
            # A rectangle that is slanted: its sides are c (a, b) and d (-b, a).
            wide, high = (c * a, c * b), (-d * b, d * a)
            fence = Fence([(0, 0), wide, (wide[0] + high[0], wide[1] + high[1]), high])
            self.assertEqual(headlands(begun(fence, c % 4)), ())
        # Straight corners give a rectangle none: the stretch would go straight back.
        self.assertEqual(headlands(Fence(RULED)), ())

    def test_thirty_corners_and_more(self):
        for fence in (Fence(ROUND), end_of(Fence(ROUND)), Fence(comb_corners(28, 9))):
            self.assertEqual(headlands(fence), tried(fence))
        self.assertEqual(Fence(ROUND).many, 30)
        more = Fence(MORE)
        self.assertEqual(more.many, 31)
        for fence in (more, Fence(spiral_corners(199)), Fence(comb_corners(32, 9))):
            self.raises(TooMany, ("corners", 30), headlands, fence)
        # Turning in has no such bound.
        pair = [pair for pair in headlands(Fence(ROUND)) if 0 < pair[0] < pair[1]][0]
        there = turned_in(more, pair)
        self.assertEqual(there.corners, put_half_round(more.corners, *pair))
        self.assertTrue(turned_out(there, pair) == more)

    def test_fences_wanted(self):
        self.no_fence_first(headlands)
        for pair in ((2, 4), None, (1, 1)):
            self.no_fence_first(turned_in, pair)


class TurnedIn(Case):
    def test_by_hand(self):
        house = Fence(HOUSE)
        self.assertEqual(turned_in(house, (2, 4)).corners, NOTCH)
        self.assertEqual(turned_in(house, [1, 3]).corners, ((0, 0), (4, 0), (2, 2), (2, 6), (0, 4)))
        # The stretch goes over corner 4 to corner 0.
        self.assertEqual(turned_in(pair=(3, 0), fence=house).corners, ((0, 0), (4, 0), (4, 4), (2, 6), (2, 2)))
        # Corner 0 moves: it stands at (4, 4) here.
        self.assertEqual(turned_in(begun(house, 2), (4, 1)).corners, ((2, 2), (2, 6), (0, 4), (0, 0), (4, 0)))

    def test_in_and_out_again(self):
        found = 0
        for fence in fences_with_headlands():
            for pair in headlands(fence):
                there = turned_in(fence, pair)
                self.assertIsInstance(there, Fence)
                self.assertEqual(there.corners, put_half_round(fence.corners, *pair))
                self.assertIn(pair, mouths_of(there))
                self.assertTrue(turned_out(there, pair) == fence)
                self.assertTrue(turned_in(fence, list(pair)) == there)
                self.assertEqual(there.area2, fence.area2 - 2 * bay_area2(there, pair))
                self.assertTrue(end_of(there) == end_of(fence))
                found += 1
        self.assertGreater(found, 500)

    def test_out_and_in_again(self):
        for fence in fences_of_all_kinds():
            for mouth in mouths_of(fence):
                there = turned_out(fence, mouth)
                self.assertTrue(turned_in(there, mouth) == fence)
                if there.many <= 30:
                    self.assertIn(mouth, headlands(there))

    def test_no_headlands(self):
        for corners in (HOUSE, HAT, NOTCH, TUB, HOOK, SQUARE, turned_out(Fence(COMB), (2, 7)).corners):
            fence = Fence(corners)
            told = headlands(fence)
            for p in range(-2, fence.many + 3):
                for q in range(-2, fence.many + 3):
                    if (p, q) not in told:
                        self.raises(BadMouth, ("pair",), turned_in, fence, (p, q))
                        self.raises(BadMouth, ("pair",), turned_in, fence, [p, q])
            for p, q in told:
                for pair in ((p, q + fence.many), (p - fence.many, q), (p, GREAT), (-GREAT, q), (p, 399), (400, q)):
                    self.raises(BadMouth, ("pair",), turned_in, fence, pair)

    def test_values_that_are_no_pairs(self):
        # (1, 3) and (3, 0) are headlands: so True and False must not stand for 1 and 0.
        house = Fence(HOUSE)
        for value in NO_POINTS + ((True, 3), [True, 3], (3, False), (1.0, 3), "13", "1 3", (1, 3, 3), (1,), ((1, 3),),
                                  [(1, 3)], (None, 3), {1: 3, 3: 1}, b"13"):
            self.raises(BadMouth, ("pair",), turned_in, house, value)

    def test_what_was_passed_stays(self):
        pair, house = [1, 3], Fence(HOUSE)
        turned_in(house, pair)
        headlands(house)
        self.assertEqual((pair, house.corners), ([1, 3], HOUSE))


class Times(Case):
    def test_short_time(self):
        for fence in (Fence(ROUND), Fence(slanted(comb_corners(28, 10 ** 5), 3)), Fence(spiral_corners(14)),
                      played(Fence(comb_corners(28, 9)), film_out(Fence(comb_corners(28, 9))))):
            self.is_short(headlands, fence)
        for row in (comb_corners(100, 10 ** 5), slanted(comb_corners(400, 10 ** 5), 3), spiral_corners(199),
                    slanted(spiral_corners(199))):
            fence = Fence(row)
            mouth = mouths_of(fence)[-1]
            there = turned_out(fence, mouth)
            self.assertTrue(self.is_short(turned_in, there, mouth) == fence)


if __name__ == "__main__":
    unittest.main()
