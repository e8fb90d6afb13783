import random
import unittest

from baysout.changed import begun, grown, with_corner
from baysout.ends import end_of
from baysout.errors import BadFilm, BadLine, BadMouth, BadNumber, Misfit, TooMany
from baysout.fences import Fence
from baysout.films import film_out
from baysout.headlands import headlands
from baysout.mouths import mouths_of
from baysout.steps import done, is_step, taken_back
from baysout.turnings import turned_out
from tests.makers import (
    COMB, GREAT, NO_INTEGERS, NOTHING, NOTCH, RULED, SQUARE, TUB, Case, behind_step, comb_corners, drawn_steps,
    fences_of_all_kinds, slanted, spiral_corners, steps_from, swinging_corners,
)
from tests.test_changed import RIM
from tests.test_headlands import HOUSE

LENGTHS = {"out": 2, "in": 2, "put": 3, "drop": 1, "begin": 1}
NO_STEPS = NOTHING + (
    "out", "out 2 4", "drop", b"out", 0, 4, {"out": 1}, {"drop", 1}, ("up", 1), ("Out", 2, 4), ("OUT", 2, 4),
    ("out ", 2, 4), ("", 1), ("", 1, 2), (b"drop", 1), (None, 1), (1, 1), (("out",), 2, 4), (["drop"], 1),
    ({}, 1), ((2, 4), "out"), (2, 4, "out"), ("out", (2, 4)), ["out", [2, 4]], ("put", 0, (2, 0)), ("drop", "1"),
    ("begin", None), ("begin", 1.0), ("dropbegin", 1), iter(("drop", 1)), range(2), ("turn", 1, 2), ("undo",),
)
NO_LISTS = (None, True, False, 0, 3.0, "", "begin 1", b"", {}, {("begin", 1): 1}, {("begin", 1)}, object(),
            iter([]), range(0), ("begin", 1), ["begin", 1], ("drop", 0), ("out", 2, 4))


def some_fences():
    """Fences of which steps are drawn: small ones, most of them with whole points on their sides."""
    fences = [Fence(row) for row in (HOUSE, NOTCH, RULED, TUB, COMB, SQUARE)]
    fences += [grown(fence, 2) for fence in fences_of_all_kinds() if fence.many <= 7]
    return fences + [fence for fence in fences_of_all_kinds() if fence.many in (8, 9)]


def table_of(fence, step):
    """What is taken back of a step, by the table."""
    word, at, *more = step
    if word in ("out", "in"):
        return (({"out": "in", "in": "out"}[word], at, *more),)
    if word == "put":
        return (("drop", at + 1),)
    if word == "begin":
        return (("begin", fence.many - at if at else 0),)
    x, y = fence.corners[at]
    if at:
        return (("put", at - 1, x, y),)
    return (("put", fence.many - 2, x, y), ("begin", fence.many - 1))


class IsStep(Case):
    def test_words_and_numbers(self):
        for word, many in LENGTHS.items():
            for length in range(6):
                for numbers in ([0] * length, [-7] * length, [GREAT] * length, [399, -GREAT, 0, 5, 6][:length]):
                    self.assertIs(is_step((word, *numbers)), length == many)
                    self.assertIs(is_step([word] + numbers), length == many)
                    self.assertIs(is_step(value=[word] + numbers), length == many)

    def test_numbers_that_are_none(self):
        for word, many in LENGTHS.items():
            for at in range(many):
                for value in NO_INTEGERS:
                    numbers = [3] * many
                    numbers[at] = value
                    self.assertIs(is_step((word, *numbers)), False)
                    self.assertIs(is_step([word] + numbers), False)

    def test_other_values(self):
        for value in NO_STEPS:
            self.assertIs(is_step(value), False)


class Done(Case):
    def test_each_step_at_each_corner(self):
        seen = {word: 0 for word in LENGTHS}
        for fence in some_fences():
            for word, steps in steps_from(fence).items():
                for step in steps:
                    there = behind_step(fence, step)
                    for value in (step, list(step)):
                        for told in ([value], (value,)):
                            self.assertTrue(done(fence, told) == there)
                            self.assertEqual(taken_back(fence, told), table_of(fence, step))
                    self.assertTrue(done(there, table_of(fence, step)) == fence)
                    seen[word] += 1
        self.assertGreater(min(seen.values()), 20)

    def test_drawn_steps(self):
        numbers, seen = random.Random(23), {}
        for fence in some_fences():
            steps, fences = drawn_steps(fence, 12, numbers)
            for many in range(len(steps) + 1):
                there = done(fence, steps[:many])
                self.assertIsInstance(there, Fence)
                self.assertTrue(there == fences[many])
                self.assertTrue(end_of(there) == end_of(fence))
            self.assertTrue(done(steps=tuple(list(step) for step in steps), fence=fence) == fences[-1])
            for word in [step[0] for step in steps]:
                seen[word] = seen.get(word, 0) + 1
        self.assertGreater(min(seen[word] for word in LENGTHS), 50)

    def test_over_corner_0(self):
        # The mouth's stretch is 7, 0, 1, 2 of comb, begun at corner 3.
        there = begun(Fence(COMB), 3)
        out = turned_out(there, (7, 2))
        self.assertTrue(done(there, [("out", 7, 2)]) == out)
        self.assertTrue(done(out, [["in", 7, 2]]) == there)
        # On the last side, between the last corner and corner 0, corner 4 is put, the last one then.
        self.assertEqual(done(Fence(SQUARE), [("put", 3, 0, 1)]).corners, SQUARE + ((0, 1),))
        self.assertEqual(taken_back(Fence(SQUARE), [("put", 3, 0, 1)]), (("drop", 4),))
        # Corner 0 is left out, corner 1 becomes corner 0.
        self.assertEqual(done(Fence(RULED), [("drop", 0)]).corners, RULED[1:])

    def test_none(self):
        for fence in (Fence(SQUARE), Fence(TUB)):
            for steps in ([], ()):
                self.assertTrue(done(fence, steps) == fence)
                self.assertEqual(taken_back(fence, steps), ())

    def test_no_lists_of_steps(self):
        fence = Fence(NOTCH)
        for function in (done, taken_back):
            for value in NO_LISTS:
                self.raises(BadFilm, ("steps",), function, fence, value)
            for step in NO_STEPS:
                for steps in ([step], (step,), [("out", 2, 4), step], [("begin", 9), step], [step, ("begin", 0)]):
                    self.raises(BadFilm, ("steps",), function, fence, steps)

    def test_four_thousand_steps(self):
        fence = Fence(TUB)
        self.assertTrue(done(fence, [("begin", 1)] * 4000) == fence)
        self.assertTrue(done(fence, [("begin", 1)] * 3999) == begun(fence, 7))
        self.assertEqual(taken_back(fence, [["begin", 1]] * 4000), (("begin", 7),) * 4000)
        for function in (done, taken_back):
            for many in (4001, 4002, 9000):
                self.raises(BadFilm, ("steps",), function, fence, [("begin", 1)] * many)
                # No list of steps, wherever one cannot be done.
                self.raises(BadFilm, ("steps",), function, fence, [("begin", 8)] * many)

    def test_fences_wanted(self):
        for function in (done, taken_back):
            for steps in ([("out", 2, 4)], [], None, [("up", 1)]):
                self.no_fence_first(function, steps)

    def test_nothing_is_changed(self):
        steps, fence = [["out", 2, 4], ["in", 1, 3], ["put", 0, 2, 0]], Fence(NOTCH)
        done(fence, steps)
        taken_back(fence, steps)
        self.assertEqual(steps, [["out", 2, 4], ["in", 1, 3], ["put", 0, 2, 0]])
        self.assertEqual(fence.corners, NOTCH)


class Lines(Case):
    def cannot(self, fence, ahead, step, error, fields):
        """Checks that a step can't be done behind others, and what is told of it."""
        # What stands behind it does not matter.
        for behind in ([], [("begin", 0)], [("begin", 400)]):
            for function in (done, taken_back):
                with self.assertRaises(BadLine) as caught:
                    function(fence, ahead + [step] + behind)
                told = caught.exception
                self.assertEqual([type(told), told.line], [BadLine, len(ahead)])
                self.assertEqual([type(told.error), tuple(vars(told.error).values())], [error, fields])

    def test_mouths_and_headlands(self):
        for fence in some_fences()[:30]:
            outs, ins = mouths_of(fence), headlands(fence)
            for p in range(-1, fence.many + 2):
                for q in range(-1, fence.many + 2):
                    if (p, q) not in outs:
                        self.cannot(fence, [], ("out", p, q), BadMouth, ("mouth",))
                    if (p, q) not in ins:
                        self.cannot(fence, [], ["in", p, q], BadMouth, ("pair",))
        for p, q in ((GREAT, 4), (2, -GREAT), (2, 9)):
            self.cannot(Fence(NOTCH), [("begin", 0)], ["out", p, q], BadMouth, ("mouth",))
            self.cannot(Fence(HOUSE), [("begin", 0)], ("in", p, q), BadMouth, ("pair",))

    def test_no_corners_numbers(self):
        for fence in some_fences()[:30]:
            for at in (-1, -fence.many, fence.many, fence.many + 1, GREAT, -GREAT):
                self.cannot(fence, [("begin", 0)], ("begin", at), BadNumber, ("at",))
                self.cannot(fence, [("begin", 0)], ("drop", at), BadNumber, ("at",))
                # Ahead of the point.
                self.cannot(fence, [("begin", 0)], ("put", at, 1, 1), BadNumber, ("at",))

    def test_corners_that_are_not_straight(self):
        for fence in some_fences()[:30]:
            straight = [step[1] for step in steps_from(fence)["drop"]]
            for at in range(fence.many):
                if at not in straight:
                    self.cannot(fence, [], ("drop", at), Misfit, ("at",))

    def test_points_beside_a_side(self):
        for fence in some_fences()[:30]:
            for at, ((x, y), (a, b)) in enumerate(zip(fence.corners, fence.sides)):
                for point in ((x, y), (x + a, y + b), (x - a, y - b), (x + 2 * a, y + 2 * b), (x - b, y + a),
                              (GREAT, GREAT)):
                    self.cannot(fence, [], ["put", at, *point], Misfit, ("point",))

    def test_400_corners(self):
        full = Fence(RIM)
        self.assertEqual(full.many, 400)
        self.cannot(full, [], ("put", 0, 1, 0), TooMany, ("corners", 400))
        self.cannot(full, [], ("put", 0, 2, 0), Misfit, ("point",))
        self.cannot(full, [("drop", 1), ("put", 0, 2, 0)], ("put", 0, 1, 0), TooMany, ("corners", 400))
        self.assertEqual(done(full, [("drop", 1), ("put", 0, 1, 0)]).corners[:3], ((0, 0), (1, 0), (4, 0)))
        self.cannot(full, [], ("begin", 400), BadNumber, ("at",))
        self.assertEqual(done(full, [("begin", 399)]).corners[0], RIM[399])

    def test_at_each_line(self):
        numbers = random.Random(24)
        for fence in some_fences()[::4]:
            steps, fences = drawn_steps(fence, 10, numbers)
            for line, there in enumerate(fences):
                self.cannot(fence, steps[:line], ("begin", there.many), BadNumber, ("at",))
                self.cannot(fence, steps[:line], ("out", 0, 0), BadMouth, ("mouth",))
                self.cannot(fence, steps[:line], ["in", 1, 1], BadMouth, ("pair",))
                self.cannot(fence, steps[:line], ["put", 0, *there.corners[0]], Misfit, ("point",))
        # As the fence stands then: a mouth that is turned out is none any more.
        self.cannot(Fence(NOTCH), [("out", 2, 4)], ("out", 2, 4), BadMouth, ("mouth",))
        self.cannot(Fence(NOTCH), [("begin", 1)], ("out", 2, 4), BadMouth, ("mouth",))
        self.cannot(Fence(RULED), [("drop", 0), ("drop", 0)], ("drop", 0), Misfit, ("at",))


class TakenBack(Case):
    def test_row_by_row(self):
        ruled, notch, house = Fence(RULED), Fence(NOTCH), Fence(HOUSE)
        for fence, step, wanted in (
            (notch, ("out", 2, 4), (("in", 2, 4),)),
            (house, ("in", 1, 3), (("out", 1, 3),)),
            (house, ("put", 0, 3, 0), (("drop", 1),)),
            (house, ("put", 4, 0, 1), (("drop", 5),)),
            (ruled, ("drop", 1), (("put", 0, 3, 0),)),
            (ruled, ("drop", 6), (("put", 5, 1, 0),)),
            (ruled, ("drop", 0), (("put", 5, 2, 0), ("begin", 6))),
            (ruled, ("begin", 0), (("begin", 0),)),
            (ruled, ("begin", 1), (("begin", 6),)),
            (ruled, ("begin", 6), (("begin", 1),)),
        ):
            self.assertEqual(taken_back(fence, [step]), wanted)
            self.assertEqual(taken_back(steps=(list(step),), fence=fence), wanted)
            self.assertTrue(done(done(fence, [step]), wanted) == fence)

    def test_back_and_there_again(self):
        numbers, dropped = random.Random(25), 0
        for fence in some_fences():
            steps, fences = drawn_steps(fence, 15, numbers)
            dropped += ("drop", 0) in steps
            back = taken_back(fence, steps)
            self.assertEqual(back, tuple(each for step, there in list(zip(steps, fences))[::-1]
                                         for each in table_of(there, step)))
            self.assertIs(type(back), tuple)
            self.assertTrue(all(type(step) is tuple and is_step(step) for step in back))
            self.assertTrue(done(fences[-1], back) == fence)
            again = taken_back(fences[-1], back)
            self.assertTrue(done(fence, again) == fences[-1])
        self.assertGreater(dropped, 10)

    def test_a_triangle_s_straight_corner(self):
        row = ((2, 0), (4, 0), (0, 4), (0, 0))
        self.assertEqual(taken_back(Fence(row), [("drop", 0)]), (("put", 2, 2, 0), ("begin", 3)))
        self.assertEqual(done(Fence(row[1:]), (("put", 2, 2, 0), ("begin", 3))).corners, row)


class Times(Case):
    def test_short_time(self):
        for row in (comb_corners(100, 10 ** 5), spiral_corners(49), slanted(spiral_corners(49)),
                    slanted(comb_corners(100, 10 ** 5), 3), swinging_corners(8, 4)):
            fence = Fence(row)
            out = [("out", *mouth) for mouth in film_out(fence)[:60]]
            there = self.is_short(done, fence, out)
            back = self.is_short(taken_back, fence, out)
            self.assertTrue(self.is_short(done, there, back) == fence)
            many = 4000 // (len(out) + len(back))
            self.assertTrue(self.is_short(done, fence, (out + list(back)) * many) == fence)
            self.is_short(taken_back, fence, (out + list(back)) * many)
        fence = with_corner(Fence(SQUARE), 0, (1, 0))
        steps = [("put", 0, 1, 0), ("drop", 1), ("begin", 1), ("begin", 3)] * 1000
        self.assertTrue(self.is_short(done, Fence(SQUARE), steps) == Fence(SQUARE))
        self.assertTrue(self.is_short(done, fence, [("drop", 1)] + steps[:3900]) == Fence(SQUARE))


if __name__ == "__main__":
    unittest.main()
