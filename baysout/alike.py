"""Fences that are led to one another, by steps: those that have one field."""

from baysout.ends import end_of
from baysout.errors import TooMany
from baysout.fences import want_fence
from baysout.films import MOST_TURNINGS, film_out
from baysout.lifts import most_bites
from baysout.papers import Denial, Paper
from baysout.points import lies_between
from baysout.steps import corners_behind, taken_back

MOST_LED = 60


class Led(Paper):
    """Steps that lead from one fence to the other."""

    def __init__(self, steps):
        super().__init__("led", steps)
        self.steps = self.parts[0]


class Unlike(Denial):
    """The fields of two fences, which are not one."""

    def __init__(self, one, other):
        super().__init__("unlike", one, other)
        self.one, self.other = self.parts


def want_two(one, other):
    """Raises the errors for two fences that are to be led to one another."""
    want_fence(one, "one")
    want_fence(other, "other")
    if one.many > MOST_LED or other.many > MOST_LED:
        raise TooMany("corners", MOST_LED)
    if most_bites(one) > MOST_TURNINGS or most_bites(other) > MOST_TURNINGS:
        raise TooMany("turnings", MOST_TURNINGS)


def steps_out(fence):
    """The steps that turn out mouths of a fence as long as there are any."""
    return [("out", p, q) for p, q in film_out(fence)]


def side_with(corners, point):
    """The number of the side on which a point lies, but at neither end."""
    ends = corners[1:] + corners[:1]
    return [lies_between(one, other, point) for one, other in zip(corners, ends)].index(True)


def steps_between(corners, others):
    """The steps from convex corners to others with the same land: they differ in straight ones, and the begin."""
    steps = []
    for x, y in others:
        if (x, y) not in corners:
            step = ("put", side_with(corners, (x, y)), x, y)
            steps.append(step)
            corners = corners_behind(corners, [step])
    for gone in [spot for spot in corners if spot not in others]:
        step = ("drop", corners.index(gone))
        steps.append(step)
        corners = corners_behind(corners, [step])
    return steps + [("begin", corners.index(others[0]))]


def steps_to(one, other):
    """Steps from one fence to another that has the same field."""
    ahead, behind = steps_out(one), steps_out(other)
    between = steps_between(corners_behind(one.corners, ahead), corners_behind(other.corners, behind))
    return ahead + between + list(taken_back(other, behind))


def led(one, other):
    """The steps from one fence to the other, or the two fields if they are unlike, as a paper."""
    want_two(one, other)
    field, wanted = end_of(one), end_of(other)
    if field != wanted:
        return Unlike(field, wanted)
    return Led(steps_to(one, other))
