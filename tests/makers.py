"""Fences for the tests, and checks that several test files use."""

import functools
import math
import random
import time
import unittest

from baysout.changed import begun, with_corner, without_corner
from baysout.errors import BadFence, BadLine
from baysout.fences import Fence
from baysout.headlands import headlands, turned_in
from baysout.mouths import edge_rows, leaves_line, mouths_of
from baysout.turnings import corners_out, turned_out

SQUARE = ((0, 0), (4, 0), (4, 4), (0, 4))
NOTCH = ((0, 0), (4, 0), (4, 4), (2, 2), (0, 4))
COMB = ((0, 0), (6, 0), (6, 3), (5, 1), (4, 3), (3, 3), (2, 1), (0, 3))
TUB = ((0, 0), (6, 0), (6, 6), (4, 6), (4, 2), (2, 2), (2, 6), (0, 6))
HOOK = (
    (0, 0), (10, 0), (10, 10), (0, 10), (0, 3), (7, 3), (7, 6), (6, 6), (6, 4), (1, 4), (1, 9), (9, 9), (9, 1), (0, 1),
)
# Both have many films; the first one just 300 unlike stages, the second one 301.
MANY = ((6, 5), (3, 9), (5, 2), (3, 5), (0, 7), (1, 6), (0, 4), (2, 2), (4, 3), (2, 1), (7, 1), (7, 9))
TOO_MANY = (
    (5, 5), (13, 10), (12, 6), (18, 10), (20, 3), (20, 20), (10, 12), (12, 20), (4, 16), (7, 8), (3, 6),
)
# Straight corners on the lower side, corner 0 one of them.
RULED = ((2, 0), (3, 0), (6, 0), (6, 6), (0, 6), (0, 0), (1, 0))

GREAT = 10 ** 30
# What is no integer, no point, no fence, no list of anything.
NOTHING = (None, True, False, 1.0, "", "12", b"12", {}, set(), object(), [], (), [None], [1], (1, 2, 3))
NO_INTEGERS = NOTHING + ((0,), "0")
NO_POINTS = NOTHING + (
    0, 7, (1, True), (False, 0), [1, "2"], (1.0, 2), (None, 1), "ab", {1: 2, 3: 4}, {1, 2}, ((1, 2), (3, 4)),
)
NO_FENCES = NOTHING + (0, SQUARE, list(SQUARE), "0 0 / 4 0 / 4 4", Fence)

# What is asked for takes less than one; a busy machine takes longer.
SECONDS = 5


def fences_of_all_kinds():
    """Small fences by hand, and many that are put together at random, the same ones each time."""
    fences = [Fence(corners) for corners in (SQUARE, NOTCH, COMB, TUB, HOOK, RULED)]
    fences += [Fence(spiral_corners(arms)) for arms in (1, 2, 3, 4, 5, 9, 14)]
    numbers = random.Random(20)
    for many in range(3, 15):
        fences += [random_fence(numbers, many, size) for size in (3, 4, 6, 9) for _ in range(3)]
    return fences


def random_fence(numbers, many, size):
    """A fence of about so many corners within a square: points are put in where they may stand."""
    while True:
        row = [(numbers.randint(0, size), numbers.randint(0, size)) for _ in range(3)]
        fence = fence_or_none(row) or fence_or_none(row[::-1])
        if fence is not None:
            break
    for _ in range(60):
        if fence.many >= many:
            break
        at = numbers.randint(1, fence.many)
        point = (numbers.randint(0, size), numbers.randint(0, size))
        fence = fence_or_none(fence.corners[:at] + (point,) + fence.corners[at:]) or fence
    begin = numbers.randrange(fence.many)
    return Fence(fence.corners[begin:] + fence.corners[:begin])


def fence_or_none(corners):
    try:
        return Fence(corners)
    except BadFence:
        return None


def spiral_corners(arms):
    """The corners of a way one wide that winds outward, by so many arms, to the left."""
    ways = ((1, 0), (0, 1), (-1, 0), (0, -1))
    right, left = [(0, 0)], [(0, 1)]
    x, y = 0, 0
    for arm in range(arms):
        (a, b), (c, d) = ways[arm % 4], ways[(arm + 1) % 4]
        x, y = x + a * (arm // 2 + 1) * 2, y + b * (arm // 2 + 1) * 2
        # The unit square at x, y: its corner away from the next arm, and the one towards it.
        right.append((x + (a - c + 1) // 2, y + (b - d + 1) // 2))
        last = arm == arms - 1
        inner = (a + c + 1) // 2 if last else (c - a + 1) // 2
        upper = (b + d + 1) // 2 if last else (d - b + 1) // 2
        left.append((x + inner, y + upper))
    return right + left[::-1]


def comb_corners(many, height):
    """So many corners (even) of a comb whose teeth are one wide; all points of teeth lie on one hull edge."""
    teeth = many // 4
    row = [(0, 0), (2 * teeth - 1, 0)]
    for tooth in range(teeth - 1, -1, -1):
        row += [(2 * tooth + 1, height), (2 * tooth, height)]
        if tooth > 0:
            row += [(2 * tooth, 1), (2 * tooth - 1, 1)]
    return row


def swinging_corners(steep, slope):
    """The corners of a zigzag of 33 points, the first ones ever steeper, which turns to and fro by much."""
    tops = [100 + (3 * k * k if k < steep else slope * k) for k in range(33)]
    row = [(0, 0), (66, 0)]
    for k in range(32, -1, -1):
        row.append((2 * k + 1, tops[k]))
        if k > 0:
            row.append((2 * k, k))
    return row


def film_by(fence, choose, numbers):
    """A film that ends, its mouths taken at random among those that are told."""
    film = []
    while choose(fence):
        film.append(numbers.choice(choose(fence)))
        fence = turned_out(fence, film[-1])
    return film


def points_on_sides(fence):
    """For each side that has points between its ends one of them: triples of the side's number, x and y."""
    found = []
    for at, ((x, y), (a, b)) in enumerate(zip(fence.corners, fence.sides)):
        most = math.gcd(a, b)
        if most > 1:
            part = most // 2 + most % 2
            found.append((at, x + a // most * part, y + b // most * part))
    return found


def steps_from(fence):
    """All steps out, in, drop and begin that can be done, some steps put; for each word a list of them."""
    straight = [at for at in range(fence.many) if not cross_at(fence, at)]
    return {
        "out": [("out",) + mouth for mouth in mouths_of(fence)],
        "in": [("in",) + pair for pair in headlands(fence)],
        "put": [("put",) + spot for spot in points_on_sides(fence)] if fence.many < 16 else [],
        "drop": [("drop", at) for at in straight],
        "begin": [("begin", at) for at in range(fence.many)],
    }


def cross_at(fence, at):
    """How one turns at a corner: above 0 to the left, 0 straight on."""
    (a, b), (c, d) = fence.sides[at - 1], fence.sides[at]
    return a * d - b * c


def behind_step(fence, step):
    """The fence that one step makes of another, by the functions of the table."""
    word, at, *more = step
    if word in ("out", "in"):
        return {"out": turned_out, "in": turned_in}[word](fence, (at, *more))
    if word == "put":
        return with_corner(fence, at, tuple(more))
    return {"drop": without_corner, "begin": begun}[word](fence, at)


def drawn_steps(fence, many, numbers):
    """So many steps, drawn at random, each word as often where it can be; and the fences, this one first."""
    steps, fences = [], [fence]
    for _ in range(many):
        rows = [row for row in steps_from(fences[-1]).values() if row]
        steps.append(numbers.choice(numbers.choice(rows)))
        fences.append(behind_step(fences[-1], steps[-1]))
    return steps, fences


@functools.cache
def narrow_film():
    """The corners of a zigzag at each stage of a film that turns out the narrowest mouth always."""
    row = [(0, 0), (220, 0)]
    for k in range(109, -1, -1):
        row += [(2 * k + 1, 1000 + k * k), (2 * k, k)]
    told, film = [tuple(row[:-1])], []
    while True:
        mouths = []
        for row in edge_rows(told[-1]):
            mouths += [(row[j][0] - row[j - 1][0], row[j - 1][1], row[j][1]) for j in range(1, len(row))
                       if leaves_line(row, j - 1, j)]
        if not mouths:
            return told, film
        film.append(min(mouths)[1:])
        told.append(corners_out(told[-1], film[-1]))


def narrow_mouths(fence, many):
    """A film of so many turnings, of the mouths with the shortest stretches always."""
    film = []
    while len(film) < many:
        film.append(min(((q - p) % fence.many, p, q) for p, q in mouths_of(fence))[1:])
        fence = turned_out(fence, film[-1])
    return film


def slanted(corners, factor=1):
    """Corners turned by an eighth and grown: no side goes east or north, and all boxes overlap."""
    return [((x - y) * factor, (x + y) * factor) for x, y in corners]


class Case(unittest.TestCase):
    """What the tests of all files use."""

    def raises(self, error, fields, function, *args, **named):
        """Checks that a call raises just this error, with these fields."""
        with self.assertRaises(error) as caught:
            function(*args, **named)
        self.assertIs(type(caught.exception), error)
        self.assertEqual(tuple(vars(caught.exception).values()), fields)

    def raises_line(self, line, error, fields, function, *args):
        """Checks that a call raises the BadLine of this line and this error, with these fields."""
        with self.assertRaises(BadLine) as caught:
            function(*args)
        told = caught.exception
        self.assertEqual([type(told), told.line, type(told.error)], [BadLine, line, error])
        self.assertEqual(tuple(vars(told.error).values()), fields)

    def no_fence_first(self, function, *more):
        """Checks that a function wants a Fence, ahead of all else."""
        for value in NO_FENCES:
            with self.subTest(function=function, value=value):
                self.raises(BadFence, ("fence",), function, value, *more)

    def is_short(self, function, *args):
        """Checks that a call comes to an end in a short time; returns what it returns."""
        begin = time.perf_counter()
        value = function(*args)
        self.assertLess(time.perf_counter() - begin, SECONDS, function)
        return value
