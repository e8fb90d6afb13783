"""Charts in a slow way: fences are compared side by side, and all courses are tried."""

import functools
import random

from baysout.changed import moved
from baysout.charts import Chart
from baysout.ends import end_of
from baysout.errors import Misfit
from baysout.fences import Fence
from baysout.mouths import mouths_of
from baysout.turnings import turned_out
from tests.makers import COMB, NOTCH, SQUARE, TUB, random_fence
from tests.oracles import are_apart_slowly

COVE = ((0, 0), (9, 0), (9, 9), (7, 9), (7, 3), (3, 3), (3, 9), (0, 9))
BOX = ((0, 0), (2, 0), (2, 2), (0, 2))


@functools.cache
def corners_apart(one, other):
    return are_apart_slowly(one, other)


def apart(one, other):
    return corners_apart(one.corners, other.corners)


def drawn_charts(many):
    """Small charts, drawn at random: fences are put where they are apart from all others."""
    numbers, charts = random.Random(61), []
    forms = [Fence(row) for row in (NOTCH, SQUARE, TUB, COMB, COVE, BOX)]
    while len(charts) < many:
        wide = numbers.choice((4, 5, 6, 7, 9, 12))
        placed = []
        for _ in range(numbers.randint(1, 9)):
            fence = numbers.choice(forms + [random_fence(numbers, numbers.randint(3, 7), 5)] * 6)
            fence = moved(fence, (numbers.randint(-wide, wide), numbers.randint(-wide, wide)))
            if len(placed) < 4 and all(apart(fence, other) for other in placed):
                placed.append(fence)
        names = ["a", "b2", "zz", "m"]
        numbers.shuffle(names)
        charts.append(Chart(list(zip(names, placed))))
    return charts


def behind_outing(chart, outing):
    """The pairs of a chart, the fence of an outing turned out."""
    name, p, q = outing
    return [(other, turned_out(fence, (p, q)) if other == name else fence) for other, fence in chart.pairs]


def outings_and_met(chart):
    """For each outing, ascending, the names of the fences that are not apart from what comes of it."""
    found = {}
    for name, fence in sorted(chart.pairs, key=lambda pair: pair[0]):
        for p, q in mouths_of(fence):
            turned = turned_out(fence, (p, q))
            found[name, p, q] = [other for other, there in chart.pairs if other != name and not apart(turned, there)]
    return found


def fields_that_meet(chart):
    rows = [(name, end_of(fence)) for name, fence in chart.pairs]
    return [(name, other) for at, (name, field) in enumerate(rows) for other, there in rows[at + 1:]
            if not apart(field, there)]


def is_anything_not_let(chart, most=150):
    """Whether an outing is not let behind any course, by all charts behind one; None if these are more than most."""
    seen, queue = {str(chart): chart}, [chart]
    while queue:
        here = queue.pop()
        found = outings_and_met(here)
        if any(found.values()):
            return True
        for outing in found:
            there = Chart(behind_outing(here, outing))
            if str(there) not in seen:
                seen[str(there)] = there
                queue.append(there)
        if len(seen) > most:
            return None
    return False


def clashes_behind(chart, course):
    """All pairs of names one and other of Clashes with this course; none if it is no course."""
    for outing in course:
        if outing not in outings_and_met(chart):
            return set()
        try:
            chart = Chart(behind_outing(chart, outing))
        except Misfit:
            return set()
    return {(name, other) for (name, _, _), met in outings_and_met(chart).items() for other in met}


def is_clash(chart, one, other, course):
    """Whether what a Clash tells is so."""
    return (one, other) in clashes_behind(chart, course)
