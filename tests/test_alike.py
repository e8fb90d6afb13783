import random
import unittest

from baysout.alike import Led, Unlike, led
from baysout.changed import begun, grown, mirrored, moved, straightened, turned, with_corner
from baysout.counts import at_most
from baysout.ends import end_of
from baysout.errors import BadFence, TooMany
from baysout.fences import Fence
from baysout.films import film_out, played
from baysout.mouths import mouths_of
from baysout.papers import Denial, Paper
from baysout.steps import done, is_step
from tests.makers import (
    COMB, GREAT, NO_FENCES, NOTCH, RULED, SQUARE, TUB, Case, comb_corners, drawn_steps, fence_or_none,
    fences_of_all_kinds, film_by, points_on_sides, slanted, spiral_corners, swinging_corners,
)
from tests.test_headlands import HOUSE
from tests.test_steps import some_fences

BENT = ((0, 0), (4, 0), (2, 2), (2, 6), (0, 4))


def saw_corners(many):
    """The corners of a zigzag of so many points, which turns to and fro by much."""
    row = [(0, 0), (2 * many, 0)]
    for k in range(many - 1, -1, -1):
        row.append((2 * k + 1, 1000 + k * k))
        if k > 0:
            row.append((2 * k, k))
    return row


def with_many(fence, many):
    """The fence with straight corners on it, so many corners in all."""
    while fence.many < many:
        at, x, y = points_on_sides(fence)[0]
        fence = with_corner(fence, at, (x, y))
    return fence


def drawn_pairs():
    """Pairs of fences, the other one led to from the one by steps of all kinds."""
    numbers, pairs = random.Random(26), []
    for fence in some_fences():
        pairs.append((fence, drawn_steps(fence, 25, numbers)[1][-1]))
    return pairs


class Papers(Case):
    def test_papers(self):
        told = Led(steps=[["out", 2, 4], ("drop", 1)])
        self.assertEqual([told.word, told.parts, told.steps, bool(told)],
                         ["led", ((("out", 2, 4), ("drop", 1)),), (("out", 2, 4), ("drop", 1)), True])
        self.assertTrue(Led([("out", 2, 4), ["drop", 1]]) == told)
        self.assertFalse(Paper("led", *told.parts) == told)
        self.assertEqual(Led.__bases__, (Paper,))
        self.assertNotIsInstance(told, Denial)
        self.assertEqual(Led({"a": [1]}).steps, {"a": [1]})
        one, other = Fence(SQUARE), Fence(NOTCH)
        told = Unlike(one, other)
        self.assertEqual([told.word, told.parts[0] == one, told.parts[1] == other, told.one is one, told.other is other],
                         ["unlike"] + [True] * 4)
        self.assertIs(bool(told), False)
        self.assertEqual(Unlike.__bases__, (Denial,))
        self.assertTrue(Unlike(other=Fence(NOTCH), one=Fence(SQUARE)) == told)
        self.assertFalse(Unlike(other, one) == told)
        self.assertFalse(Denial("unlike", one, other) == told)
        self.assertEqual(Unlike([[1]], [2]).parts, (((1,),), (2,)))


class LedTo(Case):
    def is_led(self, one, other):
        """Checks the steps from one fence to the other."""
        told = led(one, other)
        self.assertIs(type(told), Led)
        self.assertIs(bool(told), True)
        self.assertTrue(all(type(step) is tuple and is_step(step) for step in told.steps))
        self.assertTrue(done(one, told.steps) == other)
        most = at_most(one) + at_most(other) + one.many + other.many + 2
        self.assertLessEqual(len(told.steps), most)
        return told

    def test_by_drawn_steps(self):
        convex, longer, shorter = 0, 0, 0
        for one, other in drawn_pairs():
            told = self.is_led(one, other)
            self.is_led(other, one)
            self.assertTrue(led(one=Fence(one.corners), other=other) == told)
            convex += not mouths_of(one)
            longer, shorter = longer + (one.many < other.many), shorter + (one.many > other.many)
        self.assertGreater(min(convex, longer, shorter), 5)

    def test_by_hand(self):
        self.is_led(Fence(NOTCH), Fence(BENT))
        self.is_led(Fence(HOUSE), Fence(NOTCH))
        self.is_led(Fence(NOTCH), end_of(Fence(NOTCH)))
        self.is_led(Fence(RULED), straightened(Fence(RULED)))
        self.is_led(straightened(Fence(RULED)), Fence(RULED))
        # Straight corners of both that stand at unlike places, and at like ones.
        self.is_led(Fence(RULED), begun(with_corner(straightened(Fence(RULED)), 0, (6, 3)), 2))
        self.is_led(Fence(RULED), Fence(((3, 0), (5, 0), (6, 0), (6, 6), (0, 6), (0, 4), (0, 0))))

    def test_itself_and_begun_elsewhere(self):
        for fence in fences_of_all_kinds():
            self.is_led(fence, fence)
            for at in range(fence.many):
                self.is_led(fence, begun(fence, at))
                self.is_led(begun(fence, at), fence)

    def test_stages_and_the_field(self):
        numbers = random.Random(27)
        for fence in fences_of_all_kinds():
            film = film_by(fence, mouths_of, numbers)
            for many in range(len(film) + 1):
                there = played(fence, film[:many])
                self.is_led(fence, there)
                self.is_led(there, fence)
            self.is_led(fence, end_of(fence))
            self.is_led(end_of(fence), fence)

    def test_great_numbers(self):
        for row, other in ((NOTCH, BENT), (TUB, played(Fence(TUB), [(3, 6)]).corners)):
            far, there = [moved(grown(Fence(corners), GREAT), (-GREAT, 7)) for corners in (row, other)]
            told = self.is_led(far, there)
            self.is_led(with_corner(far, 0, (1 - GREAT, 7)), there)
            self.assertEqual(told.word, "led")

    def test_nothing_is_changed(self):
        one, other = Fence(NOTCH), Fence(BENT)
        led(one, other)
        self.assertEqual([one.corners, other.corners], [NOTCH, BENT])

    def test_sixty_corners(self):
        wide = grown(Fence(NOTCH), 100)
        full, more = with_many(wide, 60), with_many(wide, 61)
        self.assertEqual([full.many, more.many], [60, 61])
        self.is_led(full, wide)
        self.is_led(wide, full)
        self.is_led(full, begun(full, 31))
        for one, other in ((more, wide), (wide, more), (more, more), (more, Fence(SQUARE)), (Fence(SQUARE), more)):
            self.raises(TooMany, ("corners", 60), led, one, other)

    def test_corners_ahead_of_turnings(self):
        for row in (swinging_corners(8, 4), swinging_corners(3, 3), swinging_corners(33, 1)):
            fence = Fence(row)
            self.assertGreater(at_most(fence), 999)
            self.raises(TooMany, ("corners", 60), led, fence, fence)
            self.raises(TooMany, ("corners", 60), led, Fence(SQUARE), fence)

    def test_short_time(self):
        numbers = random.Random(28)
        for row in (saw_corners(10), slanted(saw_corners(10), 10 ** 4), comb_corners(60, 10 ** 5),
                    slanted(comb_corners(60, 10 ** 5), 3), spiral_corners(29), slanted(spiral_corners(29), 10 ** 4)):
            fence = Fence(row)
            self.assertLess(at_most(fence), 101)
            film = film_by(fence, mouths_of, numbers)
            for many in (0, len(film) // 3, len(film)):
                there = played(fence, film[:many])
                for one, other in ((fence, there), (there, fence)):
                    self.assertTrue(done(one, self.is_short(led, one, other).steps) == other)
            self.is_short(led, fence, moved(fence, (1, 0)))
        # With turnings to and fro beyond what is promised, too.
        fence = Fence(saw_corners(29))
        self.assertGreater(at_most(fence), 700)
        self.is_led(fence, played(fence, film_out(fence)[:100]))


class UnlikeFields(Case):
    def is_unlike(self, one, other):
        """Checks that both fields are told, in their order."""
        told = led(one, other)
        self.assertIs(type(told), Unlike)
        self.assertIs(bool(told), False)
        self.assertEqual([type(told.one), type(told.other)], [Fence, Fence])
        self.assertTrue(told.one == end_of(one))
        self.assertTrue(told.other == end_of(other))

    def test_by_hand(self):
        told = led(Fence(NOTCH), Fence(SQUARE))
        self.assertEqual([told.one.corners, told.other.corners], [HOUSE, SQUARE])
        self.is_unlike(Fence(SQUARE), Fence(NOTCH))

    def test_each_two_fences(self):
        fences = fences_of_all_kinds()[::4]
        for one in fences:
            for other in fences:
                if end_of(one) == end_of(other):
                    self.assertIs(type(led(one, other)), Led)
                else:
                    self.is_unlike(one, other)

    def test_same_field_elsewhere(self):
        for fence in fences_of_all_kinds():
            for by in ((1, 0), (0, -1), (GREAT, GREAT)):
                self.is_unlike(fence, moved(fence, by))
                self.is_unlike(moved(fence, by), fence)

    def test_same_sides_and_same_land(self):
        # The same fence turned half round has the same sides in length, and the same land.
        for fence in fences_of_all_kinds():
            for other in (turned(fence, 2), mirrored(fence), turned(fence, 1)):
                if end_of(other) != end_of(fence):
                    self.is_unlike(fence, other)
        # The same sides in another order lead to a field of the same form, perhaps elsewhere.
        numbers, found = random.Random(29), 0
        for fence in fences_of_all_kinds():
            sides = list(fence.sides)
            for _ in range(8):
                numbers.shuffle(sides)
                spots = [fence.corners[0]]
                for x, y in sides[:-1]:
                    spots.append((spots[-1][0] + x, spots[-1][1] + y))
                other = fence_or_none(spots)
                if other is not None and end_of(other) != end_of(fence):
                    self.assertEqual(end_of(other).area2, end_of(fence).area2)
                    self.is_unlike(fence, other)
                    found += 1
        self.assertGreater(found, 20)
        # Two rectangles with one area.
        self.is_unlike(Fence(((0, 0), (6, 0), (6, 2), (0, 2))), Fence(((0, 0), (4, 0), (4, 3), (0, 3))))

    def test_grown(self):
        self.is_unlike(Fence(COMB), grown(Fence(COMB), 2))


class Wrong(Case):
    def test_fences_wanted(self):
        for value in NO_FENCES:
            for other in (Fence(SQUARE), None, Fence(swinging_corners(3, 3))):
                self.raises(BadFence, ("one",), led, value, other)
            self.raises(BadFence, ("other",), led, Fence(SQUARE), value)
            # Ahead of how many corners the first one has.
            self.raises(BadFence, ("other",), led, Fence(swinging_corners(3, 3)), value)
        self.raises(BadFence, ("one",), led, other=Fence(SQUARE), one=None)


if __name__ == "__main__":
    unittest.main()
