"""Turning out a bay: its stretch is turned half round about the middle of its mouth."""

from baysout.fences import Fence
from baysout.mouths import stretch_of


def half_round(corners, stretch):
    """The corners, those of a stretch turned half round about the middle between its ends."""
    one, other = corners[stretch[0]], corners[stretch[-1]]
    placed = list(corners)
    for at, origin in zip(stretch, stretch[::-1]):
        x, y = corners[origin]
        placed[at] = (one[0] + other[0] - x, one[1] + other[1] - y)
    return placed


def turned_out(fence, mouth):
    """The fence behind the turning out of a mouth."""
    stretch = stretch_of(fence, mouth)
    return Fence(half_round(fence.corners, stretch))
