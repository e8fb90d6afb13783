import random
import unittest

from baysout.alike import Led, Unlike, led
from baysout.changed import begun, grown, moved, with_corner
from baysout.check_alike import shows_led
from baysout.counts import Least, at_most
from baysout.ends import Ended, end_of
from baysout.errors import BadFence, BadLine, TooMany
from baysout.fences import Fence
from baysout.films import film_out, played
from baysout.papers import Denial, Paper
from baysout.steps import done, taken_back
from tests.makers import (
    GREAT, NO_FENCES, NOTCH, RULED, SQUARE, TUB, Case, comb_corners, drawn_steps, fences_of_all_kinds, slanted,
    spiral_corners, swinging_corners,
)
from tests.test_alike import BENT, drawn_pairs, saw_corners, with_many
from tests.test_headlands import HOUSE
from tests.test_steps import NO_LISTS, NO_STEPS, some_fences


def bent_steps(steps, numbers):
    """Lists of steps beside others: one left out, put in twice, changed, two exchanged, more behind them."""
    bent = [steps[:-1], steps[1:], steps + steps[-1:], steps[::-1], steps + [("begin", 1)], [("begin", 1)] + steps,
            steps + [("out", 0, 0)], steps + [("begin", GREAT)], [("drop", -1)] + steps]
    for _ in range(4):
        at = numbers.randrange(len(steps))
        word, *rest = steps[at]
        k = numbers.randrange(len(rest))
        more = rest[:k] + [rest[k] + numbers.choice((-1, 1))] + rest[k + 1:]
        for step in ((word, *more), (word, *rest[::-1]), (numbers.choice(("out", "in")), 0, 2), ("begin", 0)):
            bent.append(steps[:at] + [step] + steps[at + 1:])
        bent.append(steps[:at] + steps[at + 1:])
        bent.append(steps[:at] + steps[at + 1:at + 2] + steps[at:at + 1] + steps[at + 2:])
    return bent


def do_they_lead(one, other, steps):
    """Whether steps lead from one fence to the other, by doing them."""
    try:
        return done(one, steps) == other
    except BadLine:
        return False


class Leading(Case):
    def test_drawn_and_told_steps(self):
        numbers = random.Random(30)
        for fence in some_fences():
            steps, fences = drawn_steps(fence, 20, numbers)
            for one, other, right in ((fence, fences[-1], steps), (fences[-1], fence, taken_back(fence, steps))):
                for value in (Led(right), Led(tuple(right)), Led(steps=[list(step) for step in right]), led(one, other)):
                    self.assertIs(shows_led(one, other, value), True)

    def test_bent_steps(self):
        numbers, right, wrong = random.Random(31), 0, 0
        for one, other in drawn_pairs():
            steps = list(led(one, other).steps)
            for bent in bent_steps(steps, numbers):
                told = do_they_lead(one, other, bent)
                self.assertIs(shows_led(one, other, Led(bent)), told)
                right, wrong = right + told, wrong + (not told)
        self.assertGreater(wrong, 500)
        self.assertGreater(right, 50)

    def test_another_begin(self):
        notch, bent = Fence(NOTCH), Fence(BENT)
        value = Led([("out", 2, 4), ("in", 1, 3)])
        self.assertIs(shows_led(value=value, other=bent, one=notch), True)
        for at in range(1, 5):
            self.assertIs(shows_led(notch, begun(bent, at), value), False)
            self.assertIs(shows_led(notch, begun(bent, at), Led(value.steps + (("begin", at),))), True)
        self.assertIs(shows_led(notch, with_corner(bent, 0, (2, 0)), value), False)
        self.assertIs(shows_led(bent, notch, value), False)

    def test_more_steps_than_are_told(self):
        notch, bent = Fence(NOTCH), Fence(BENT)
        there = [("out", 2, 4), ("in", 2, 4)]
        for many in (1, 20, 1999):
            self.assertIs(shows_led(notch, bent, Led(there * many + [("out", 2, 4), ("in", 1, 3)])), True)
        full = there * 1999 + [("out", 2, 4), ("in", 1, 3)]
        self.assertEqual(len(full), 4000)
        self.assertIs(shows_led(notch, bent, Led(full + [("begin", 0)])), False)
        self.assertIs(shows_led(notch, notch, Led([("begin", 0)] * 4000)), True)
        self.assertIs(shows_led(notch, notch, Led([("begin", 0)] * 4001)), False)

    def test_none(self):
        for fence in fences_of_all_kinds()[::5]:
            for value in (Led([]), Led(())):
                self.assertIs(shows_led(fence, fence, value), True)
                self.assertIs(shows_led(fence, moved(fence, (0, 1)), value), False)
                self.assertIs(shows_led(fence, begun(fence, 1), value), False)

    def test_no_lists_of_steps(self):
        notch, house = Fence(NOTCH), Fence(HOUSE)
        for value in NO_LISTS:
            self.assertIs(shows_led(notch, house, Led(value)), False)
            self.assertIs(shows_led(notch, notch, Led(value)), False)
        for step in NO_STEPS:
            for steps in ([step], [("out", 2, 4), step], [step, ("out", 2, 4)]):
                self.assertIs(shows_led(notch, house, Led(steps)), False)
                self.assertIs(shows_led(notch, notch, Led(steps)), False)
        # True is no number, though begun at corner 1 the notch is the other fence.
        self.assertIs(shows_led(notch, begun(notch, 1), Led([("begin", 1)])), True)
        for value in (True, 1.0, "1", None):
            self.assertIs(shows_led(notch, begun(notch, 1), Led([("begin", value)])), False)

    def test_steps_between_unlike_fields(self):
        notch, square = Fence(NOTCH), Fence(SQUARE)
        for steps in ([], [("out", 2, 4)], led(notch, Fence(BENT)).steps):
            self.assertIs(shows_led(notch, square, Led(steps)), False)


class UnlikeFields(Case):
    def test_both_fields(self):
        fences = fences_of_all_kinds()[::6]
        for one in fences:
            for other in fences:
                field, wanted = end_of(one), end_of(other)
                right = field != wanted
                self.assertIs(shows_led(one, other, Unlike(field, wanted)), right)
                self.assertIs(shows_led(one, other, led(one, other)), True)
                self.assertIs(shows_led(one, other, Unlike(wanted, field)), False)
                self.assertIs(shows_led(one, other, Unlike(field, field)), False)
                self.assertIs(shows_led(one, other, Unlike(wanted, wanted)), False)

    def test_bent_fields(self):
        notch, square = Fence(NOTCH), Fence(SQUARE)
        house = Fence(HOUSE)
        self.assertIs(shows_led(notch, square, Unlike(other=square, one=house)), True)
        for one, other in (
            (begun(house, 1), square), (house, begun(square, 3)),
            (with_corner(house, 0, (2, 0)), square), (house, with_corner(square, 3, (0, 1))),
            (HOUSE, SQUARE), (house, SQUARE), (HOUSE, square), (list(HOUSE), square), (str(house), str(square)),
            (moved(house, (1, 0)), square), (house, grown(square, 2)), (notch, square), (square, house),
            (house, None), (None, square), (None, None), (True, False), (Ended(HOUSE, []), square), ((house,), square),
            ([house], [square]),
        ):
            self.assertIs(shows_led(notch, square, Unlike(one, other)), False)

    def test_one_field(self):
        notch, bent, house = Fence(NOTCH), Fence(BENT), Fence(HOUSE)
        for one, other in ((house, house), (notch, bent), (house, begun(house, 1)), (HOUSE, HOUSE)):
            self.assertIs(shows_led(notch, bent, Unlike(one, other)), False)
        ruled = Fence(RULED)
        self.assertIs(shows_led(ruled, begun(ruled, 1), Unlike(end_of(ruled), ruled)), False)


class Others(Case):
    def test_other_values(self):
        notch, bent, square = Fence(NOTCH), Fence(BENT), Fence(SQUARE)
        for one, other in ((notch, bent), (notch, square), (notch, notch)):
            told = led(one, other)
            for value in (Paper(told.word, *told.parts), Denial(told.word, *told.parts), told.parts, told.word,
                          Least([]), Ended(NOTCH, []), Led, Unlike, "led", "unlike") + NO_FENCES:
                self.assertIs(shows_led(one, other, value), False)
            self.assertIs(shows_led(one, other, told), True)

    def test_fences_wanted(self):
        right, more = Fence(SQUARE), Fence(swinging_corners(3, 3))
        for told in (Led([]), Unlike(right, right), None):
            for value in NO_FENCES:
                self.raises(BadFence, ("one",), shows_led, value, right, told)
                self.raises(BadFence, ("one",), shows_led, value, None, told)
                self.raises(BadFence, ("other",), shows_led, right, value, told)
                self.raises(BadFence, ("other",), shows_led, more, value, told)

    def test_too_many_whatever_the_value_is(self):
        wide = grown(Fence(NOTCH), 100)
        full, more = with_many(wide, 60), with_many(wide, 61)
        self.assertIs(shows_led(full, begun(full, 1), Led([("begin", 1)])), True)
        self.assertIs(shows_led(wide, full, led(wide, full)), True)
        great = Fence(swinging_corners(3, 3))
        self.assertGreater(at_most(great), 1000)
        for value in (None, Led([]), Led([("begin", 0)]), Unlike(full, full), 5):
            for one, other in ((more, wide), (wide, more), (more, more), (great, wide), (wide, great)):
                self.raises(TooMany, ("corners", 60), shows_led, one, other, value)

    def test_nothing_is_changed(self):
        steps = [["out", 2, 4], ["in", 1, 3]]
        paper = Led(steps)
        self.assertIs(shows_led(Fence(NOTCH), Fence(BENT), paper), True)
        self.assertEqual([steps, paper.parts], [[["out", 2, 4], ["in", 1, 3]], ((("out", 2, 4), ("in", 1, 3)),)])

    def test_short_time(self):
        for row in (saw_corners(10), slanted(saw_corners(10), 10 ** 4), comb_corners(60, 10 ** 5),
                    slanted(comb_corners(60, 10 ** 5), 3), spiral_corners(29), slanted(spiral_corners(29), 10 ** 4)):
            fence = Fence(row)
            there = played(fence, film_out(fence)[:5])
            self.assertIs(self.is_short(shows_led, fence, there, led(fence, there)), True)
            out = [("out", *pair) for pair in film_out(fence)]
            steps = (out + list(taken_back(fence, out))) * (2000 // len(out))
            self.assertIs(self.is_short(shows_led, fence, fence, Led(steps)), True)
            other = moved(fence, (1, 0))
            self.assertIs(self.is_short(shows_led, fence, other, Unlike(end_of(fence), end_of(other))), True)
        self.assertIs(self.is_short(shows_led, Fence(TUB), Fence(TUB), Led([("begin", 1)] * 4000)), True)


if __name__ == "__main__":
    unittest.main()
