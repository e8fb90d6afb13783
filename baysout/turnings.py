"""Turning out a bay: its stretch is turned half round about the middle of its mouth."""

from baysout.fences import Fence, want_fence
from baysout.mouths import stretch_along


def half_round(corners, stretch):
    """The corners, those of a stretch turned half round about the middle between its ends; a tuple."""
    one, other = corners[stretch[0]], corners[stretch[-1]]
    placed = list(corners)
    for at, origin in zip(stretch, stretch[::-1]):
        x, y = corners[origin]
        placed[at] = (one[0] + other[0] - x, one[1] + other[1] - y)
    return tuple(placed)


def corners_out(corners, mouth):
    """The corners behind the turning out of a mouth; raises BadMouth for what is none."""
    return half_round(corners, stretch_along(corners, mouth))


def turned_out(fence, mouth):
    """The fence behind the turning out of a mouth."""
    want_fence(fence, "fence")
    return Fence(corners_out(fence.corners, mouth))
