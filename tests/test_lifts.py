import unittest
from math import atan2, pi

from baysout.changed import begun, grown, moved
from baysout.errors import BadPoint
from baysout.fences import Fence
from baysout.hulls import is_convex
from baysout.lifts import direction_of, directions_of, lifted_less, lifts_of, ranks_of, to_and_fro
from baysout.mouths import first_mouths, mouths_of
from baysout.turnings import turned_out
from tests.makers import (
    COMB, GREAT, HOOK, NO_INTEGERS, NO_POINTS, NOTCH, SQUARE, TUB, Case, comb_corners, fences_of_all_kinds, slanted,
    spiral_corners,
)
from tests.oracles import lifted_angles

# All directions with numbers from -3 to 3, in their order, as they are told by hand.
ORDER = (
    (1, 0), (3, 1), (2, 1), (3, 2), (1, 1), (2, 3), (1, 2), (1, 3), (0, 1), (-1, 3), (-1, 2), (-2, 3), (-1, 1), (-3, 2),
    (-2, 1), (-3, 1), (-1, 0), (-3, -1), (-2, -1), (-3, -2), (-1, -1), (-2, -3), (-1, -2), (-1, -3), (0, -1), (1, -3),
    (1, -2), (2, -3), (1, -1), (3, -2), (2, -1), (3, -1),
)


def endless(fence, at):
    """The lifted direction and the rank of a side of the endless row."""
    times, number = divmod(at, fence.many)
    rounds, direction = lifts_of(fence)[number]
    return (rounds + times, direction), ranks_of(fence)[number] + times * len(directions_of(fence))


def four_sides(fence, p, q):
    """The numbers of the sides ahead of the stretch, its last one, its first one, and the one behind it."""
    q = q if q > p else q + fence.many
    return p - 1, q - 1, p, q


class Directions(Case):
    def test_direction_of(self):
        for side, told in (
            ((5, 0), (1, 0)), ((0, 5), (0, 1)), ((-5, 0), (-1, 0)), ((0, -5), (0, -1)), ((-4, 2), (-2, 1)),
            ((6, -9), (2, -3)), ((-6, -6), (-1, -1)), ((7, 3), (7, 3)), ([0, -7], (0, -1)), ([12, 18], (2, 3)),
            ((-GREAT, 3 * GREAT), (-1, 3)), ((GREAT, GREAT + 1), (GREAT, GREAT + 1)), ((2 * GREAT, 1), (2 * GREAT, 1)),
            ((10 ** 5000, -10 ** 5000), (1, -1)),
        ):
            self.assertEqual(direction_of(side), told)
            self.assertIs(type(direction_of(side=side)), tuple)

    def test_no_sides(self):
        for value in NO_POINTS + ((0, 0), [0, 0]):
            self.raises(BadPoint, ("side",), direction_of, value)

    def test_order_of_directions(self):
        self.assertEqual(list(ORDER), sorted(ORDER, key=lambda side: atan2(side[1], side[0]) % (2 * pi)))
        for at, one in enumerate(ORDER):
            for to, other in enumerate(ORDER):
                self.assertIs(lifted_less((0, one), (0, other)), at < to)

    def test_directions_of_fences(self):
        for fence in fences_of_all_kinds():
            row = directions_of(fence)
            self.assertIs(type(row), tuple)
            self.assertEqual(set(row), {direction_of(side) for side in fence.sides})
            self.assertEqual(list(row), sorted(set(row), key=lambda side: atan2(side[1], side[0]) % (2 * pi)))
            self.assertEqual(directions_of(grown(fence, GREAT)), row)
        self.assertEqual(directions_of(Fence(HOOK)), ((1, 0), (0, 1), (-1, 0), (0, -1)))
        self.assertEqual(directions_of(fence=Fence(((0, 0), (2, -6), (4, 2), (-2, 2)))),
                         ((1, 4), (-1, 0), (1, -3), (1, -1)))

    def test_near_directions_of_great_sides(self):
        # Floating point can't tell these from one another.
        row = Fence(((0, 0), (GREAT, 1), (2 * GREAT + 1, 3), (3 * GREAT + 1, 6), (0, 6)))
        self.assertEqual(directions_of(row), ((GREAT, 1), (GREAT + 1, 2), (GREAT, 3), (-1, 0), (0, -1)))
        self.assertIs(lifted_less((0, (GREAT, GREAT + 1)), (0, (GREAT - 1, GREAT))), True)
        self.assertIs(lifted_less((0, (GREAT - 1, GREAT)), (0, (GREAT, GREAT + 1))), False)

    def test_fences_wanted(self):
        for function in (directions_of, lifts_of, ranks_of, to_and_fro):
            self.no_fence_first(function)


class Lifts(Case):
    def test_by_hand(self):
        east, north, west, south = (1, 0), (0, 1), (-1, 0), (0, -1)
        self.assertEqual(lifts_of(Fence(SQUARE)), ((0, east), (0, north), (0, west), (0, south)))
        self.assertEqual(lifts_of(begun(Fence(SQUARE), 2)), ((0, west), (0, south), (1, east), (1, north)))
        self.assertEqual(ranks_of(begun(Fence(SQUARE), 3)), (3, 4, 5, 6))
        self.assertEqual(ranks_of(Fence(NOTCH)), (0, 1, 3, 2, 4))
        self.assertEqual(ranks_of(begun(Fence(NOTCH), 3)), (2, 4, 5, 6, 8))
        self.assertEqual(to_and_fro(Fence(NOTCH)), 7)
        self.assertEqual(ranks_of(Fence(HOOK)), (0, 1, 2, 3, 4, 5, 6, 7, 6, 5, 4, 3, 2, 3))
        self.assertEqual([to_and_fro(Fence(corners)) for corners in (SQUARE, TUB, HOOK)], [4, 8, 14])
        # Begun within, rounds come to be below 0.
        self.assertEqual(lifts_of(begun(Fence(HOOK), 4))[:9], (
            (0, east), (0, north), (0, west), (0, south), (0, west), (0, north), (0, east), (-1, south), (-1, west)))

    def test_tub_turned_out(self):
        fence, told = Fence(TUB), []
        for mouth in ((3, 6), (2, 4), (5, 7), None):
            told.append(to_and_fro(fence))
            fence = turned_out(fence, mouth) if mouth else fence
        self.assertEqual(told, [8, 8, 6, 4])

    def test_rounds_by_angles(self):
        for fence in fences_of_all_kinds():
            for at in range(fence.many):
                there = begun(fence, at)
                lifts = lifts_of(there)
                self.assertEqual(lifts[0][0], 0)
                for (rounds, direction), side, angle in zip(lifts, there.sides, lifted_angles(there.corners)):
                    self.assertEqual(direction, direction_of(side))
                    turn = atan2(direction[1], direction[0]) % (2 * pi)
                    self.assertAlmostEqual(angle, turn + 2 * pi * rounds, 6)

    def test_ranks(self):
        for fence in fences_of_all_kinds():
            row = directions_of(fence)
            ranks = ranks_of(fence)
            self.assertEqual(ranks, tuple(len(row) * rounds + row.index(side) for rounds, side in lifts_of(fence)))
            following = ranks[1:] + (ranks[0] + len(row),)
            self.assertEqual(to_and_fro(fence=fence), sum(abs(a - b) for a, b in zip(ranks, following)))

    def test_winding_inward_several_times(self):
        for arms in (1, 2, 3, 4, 7, 8, 9, 14, 30, 99, 199):
            fence = Fence(spiral_corners(arms))
            self.assertEqual(max(rounds for rounds, _ in lifts_of(fence)), (arms + 1) // 4)
            self.assertEqual(to_and_fro(fence), 2 * arms + 2)
            # Begun at the outer end of the way, one goes inward first, turning right.
            inward = lifts_of(begun(fence, arms + 1))
            self.assertEqual(min(rounds for rounds, _ in inward), -((arms + 1) // 4))

    def test_begun_moved_grown(self):
        for fence in fences_of_all_kinds():
            total = to_and_fro(fence)
            self.assertEqual(lifts_of(moved(grown(fence, GREAT), (-GREAT, 1))), lifts_of(fence))
            for at in range(fence.many):
                there = begun(fence, at)
                self.assertEqual(to_and_fro(there), total)
                less = lifts_of(fence)[at][0]
                self.assertEqual(lifts_of(there), tuple(
                    (endless(fence, at + k)[0][0] - less, endless(fence, at + k)[0][1]) for k in range(fence.many)))

    def test_to_and_fro_and_directions(self):
        for fence in fences_of_all_kinds():
            total, many = to_and_fro(fence), len(directions_of(fence))
            self.assertGreaterEqual(total, many)
            self.assertEqual((total - many) % 2, 0)
            self.assertEqual(total == many, is_convex(fence))


class Turnings(Case):
    def test_each_side_keeps_its_lifted_direction(self):
        for fence in fences_of_all_kinds():
            for p, q in mouths_of(fence):
                there = turned_out(fence, (p, q))
                last = (q if q > p else q + fence.many) - 1
                unlike = set()
                for at in range(p, p + fence.many):
                    source = p + last - at if at <= last else at
                    (rounds, direction), (now, same) = endless(fence, source)[0], endless(there, at)[0]
                    self.assertEqual(direction, same)
                    unlike.add(now - rounds)
                self.assertEqual(len(unlike), 1)
                self.assertLessEqual(unlike, {-1, 0, 1})

    def test_what_to_and_fro_becomes(self):
        for fence in fences_of_all_kinds():
            first = first_mouths(fence)
            for p, q in mouths_of(fence):
                ahead, last, start, behind = [endless(fence, at)[1] for at in four_sides(fence, p, q)]
                bite = 2 * (min(start, behind) - max(ahead, last))
                self.assertGreaterEqual(bite, 2 if (p, q) in first else 0)
                self.assertEqual(to_and_fro(turned_out(fence, (p, q))), to_and_fro(fence) - bite)

    def test_films_of_first_mouths(self):
        for fence in fences_of_all_kinds():
            most, many = (to_and_fro(fence) - len(directions_of(fence))) // 2, 0
            while not is_convex(fence):
                fence = turned_out(fence, first_mouths(fence)[many % len(first_mouths(fence))])
                many += 1
            self.assertLessEqual(many, most)
            self.assertEqual(to_and_fro(fence), len(directions_of(fence)))


class Comparing(Case):
    def test_rounds_come_first(self):
        lifted = [(rounds, direction) for rounds in (-GREAT, -2, -1, 0, 1, 5) for direction in ORDER[::3]]
        for at, one in enumerate(lifted):
            for to, other in enumerate(lifted):
                self.assertIs(lifted_less(one, other), at < to)
                self.assertIs(lifted_less([one[0], list(one[1])], (other[0], list(other[1]))), at < to)

    def test_opposite_and_equal(self):
        self.assertIs(lifted_less((0, (1, 0)), (0, (-1, 0))), True)
        self.assertIs(lifted_less((0, (-1, 0)), (0, (1, 0))), False)
        self.assertIs(lifted_less((-1, (0, -1)), (0, (0, 1))), True)
        self.assertIs(lifted_less((0, (0, -1)), (0, (0, 1))), False)
        self.assertIs(lifted_less((3, (2, -1)), [3, [2, -1]]), False)
        self.assertIs(lifted_less(other=(0, (1, 0)), one=(-1, (3, -1))), True)

    def test_no_lifted_directions(self):
        good = (0, (1, 0))
        wrong = NO_POINTS + (
            (0, 0), (0, 1), (1, 0), (0, (0, 0)), (0, (2, 2)), (0, (0, 5)), (0, (-3, 0)), (0, (GREAT, 2)),
            (0, (1, 0), 0), (0, 1, 0), ((1, 0), 0), ("0", (1, 0)),
        )
        wrong += tuple((value, (1, 0)) for value in NO_INTEGERS) + tuple((0, value) for value in NO_POINTS)
        for value in wrong:
            self.raises(BadPoint, ("one",), lifted_less, value, good)
            self.raises(BadPoint, ("other",), lifted_less, good, value)
            self.raises(BadPoint, ("one",), lifted_less, value, value)

    def test_short_time(self):
        for row in (comb_corners(100, 10 ** 5), slanted(comb_corners(100, 10 ** 5), 3), spiral_corners(49),
                    [(x, x * x) for x in range(-200, 200)], COMB):
            fence = Fence(row)
            for function in (directions_of, lifts_of, ranks_of, to_and_fro):
                self.is_short(function, fence)
        self.assertEqual(len(directions_of(Fence([(x, x * x) for x in range(-200, 200)]))), 400)


if __name__ == "__main__":
    unittest.main()
