"""Pictures of fences: rows of signs, one for each point of a box."""

from math import gcd

from baysout.errors import TooMany
from baysout.fences import want_fence
from baysout.films import rows_along, want_film
from baysout.outlines import box_about, stretches_of

MOST_ROWS = 200
MOST_COLUMNS = 200


def want_box(box):
    """Raises TooMany for a box of which there may be no picture."""
    left, right, low, high = box
    if high - low >= MOST_ROWS:
        raise TooMany("rows", MOST_ROWS)
    if right - left >= MOST_COLUMNS:
        raise TooMany("columns", MOST_COLUMNS)


def columns_met(corners, box):
    """For each row of a box, the upper one first, the columns at which the fence is crossed, ascending."""
    left, _, low, high = box
    found = [[] for _ in range(low, high + 1)]
    for one, other in stretches_of(corners):
        across, up = other[0] - one[0], other[1] - one[1]
        # A side is crossed at its lower end, not at its upper one: so where one goes on upward it is crossed once.
        for y in range(min(one[1], other[1]), max(one[1], other[1])):
            # Rounded up: to the first column that isn't ahead of the crossing.
            found[high - y].append(one[0] - (one[1] - y) * across // up - left)
    return [sorted(row) for row in found]


def mark_rim(rows, corners, box):
    """Puts the signs of the points on the rim into rows of signs."""
    left, _, _, high = box
    for (x, y), (a, b) in stretches_of(corners):
        many = gcd(a - x, b - y)
        for k in range(1, many):
            rows[high - y - (b - y) // many * k][x + (a - x) // many * k - left] = "#"
        rows[high - y][x - left] = "+"


def signs_of(corners, box):
    """The rows of signs of a fence in a box, as lists."""
    left, right, _, _ = box
    rows = []
    for columns in columns_met(corners, box):
        row = [" "] * (right - left + 1)
        for start, end in zip(columns[::2], columns[1::2]):
            row[start:end] = ["."] * (end - start)
        rows.append(row)
    mark_rim(rows, corners, box)
    return rows


def picture_in(corners, box):
    """The picture of a fence in a box."""
    return tuple(["".join(row) for row in signs_of(corners, box)])


def picture_of(fence):
    """The picture of the fence in its box."""
    want_fence(fence, "fence")
    box = box_about(fence.corners)
    want_box(box)
    return picture_in(fence.corners, box)


def beside(sign, there):
    """The sign of a point in the picture of a fence beside another one, from its signs in the pictures of both."""
    return ":" if sign == " " and there != " " else sign


def picture_beside(fence, other):
    """The picture of a fence beside another one, in the box of both."""
    want_fence(fence, "fence")
    want_fence(other, "other")
    box = box_about(fence.corners + other.corners)
    want_box(box)
    ours, theirs = signs_of(fence.corners, box), signs_of(other.corners, box)
    return tuple(["".join([beside(sign, there) for sign, there in zip(row, more)]) for row, more in zip(ours, theirs)])


def pictures_of(fence, film):
    """The pictures of all stages of a film, each in the box of all."""
    want_fence(fence, "fence")
    want_film(film)
    rows = rows_along(fence.corners, film)
    box = box_about([corner for row in rows for corner in row])
    want_box(box)
    return tuple([picture_in(row, box) for row in rows])
