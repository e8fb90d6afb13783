"""Fences made of other ones: moved, turned, mirrored, begun elsewhere, grown, with corners put or left out.

What takes corners expects those of a fence, as tuples, and returns such ones.
"""

from baysout.errors import Misfit, TooMany
from baysout.fences import Fence, want_fence
from baysout.outlines import MOST_CORNERS, turn_at
from baysout.points import lies_between
from baysout.wants import want_number, want_point


def want_corner(corners, at):
    """Raises BadNumber for what is no number of a corner."""
    want_number(at, "at", 0, len(corners) - 1)


def corners_from(corners, at):
    """The corners begun at corner at."""
    want_corner(corners, at)
    return corners[at:] + corners[:at]


def corners_with(corners, at, point):
    """The corners with a straight one more, on side at."""
    want_corner(corners, at)
    want_point(point, "point")
    put = tuple(point)
    if not lies_between(corners[at], corners[(at + 1) % len(corners)], put):
        raise Misfit("point")
    if len(corners) >= MOST_CORNERS:
        raise TooMany("corners", MOST_CORNERS)
    return corners[:at + 1] + (put,) + corners[at + 1:]


def corners_without(corners, at):
    """The corners without the straight corner at."""
    want_corner(corners, at)
    if turn_at(corners, at) != 0:
        raise Misfit("at")
    return corners[:at] + corners[at + 1:]


def moved(fence, by):
    """The fence with each corner gone on by a point."""
    want_fence(fence, "fence")
    want_point(by, "by")
    return Fence([(x + by[0], y + by[1]) for x, y in fence.corners])


def turned(fence, quarters):
    """The fence turned about (0, 0) by so many quarters to the left."""
    want_fence(fence, "fence")
    want_number(quarters, "quarters", None, None)
    corners = list(fence.corners)
    for _ in range(quarters % 4):
        corners = [(-y, x) for x, y in corners]
    return Fence(corners)


def mirrored(fence):
    """The fence with the other sign of each x, told from the same corner on, the other way round."""
    want_fence(fence, "fence")
    corners = [(-x, y) for x, y in fence.corners]
    # Mirrored the land lies at the right hand: so the corners are told the other way round.
    return Fence(corners[:1] + corners[:0:-1])


def begun(fence, at):
    """The fence whose corner 0 is corner at."""
    want_fence(fence, "fence")
    return Fence(corners_from(fence.corners, at))


def grown(fence, factor):
    """The fence with all its numbers times a factor."""
    want_fence(fence, "fence")
    want_number(factor, "factor", 1, None)
    return Fence([(x * factor, y * factor) for x, y in fence.corners])


def with_corner(fence, at, point):
    """The fence with a straight corner more, on its side at."""
    want_fence(fence, "fence")
    return Fence(corners_with(fence.corners, at, point))


def without_corner(fence, at):
    """The fence without its straight corner at."""
    want_fence(fence, "fence")
    return Fence(corners_without(fence.corners, at))


def straightened(fence):
    """The fence without all its straight corners."""
    want_fence(fence, "fence")
    corners = fence.corners
    return Fence([corner for at, corner in enumerate(corners) if turn_at(corners, at) != 0])
