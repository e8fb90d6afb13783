"""Headlands: what bays have become that were turned out, and can become again."""

from baysout.errors import BadMouth, TooMany
from baysout.fences import Fence, want_fence
from baysout.mouths import are_numbers, has_mouth, numbers_from
from baysout.outlines import do_parts_meet, twice_area
from baysout.turnings import half_round

MOST_TRIED = 30


def row_behind(corners, pair):
    """The corners behind the turning in of a headland, a tuple; an empty one for any value that is none."""
    if not are_numbers(corners, pair):
        return ()
    stretch = numbers_from(pair[0], pair[1], len(corners))
    row = half_round(corners, stretch)
    if not has_mouth(row, pair) or twice_area(row) <= 0:
        return ()
    # The sides of the stretch are all put half round: so they still don't meet one another.
    parts = [0] * len(corners)
    for at in stretch[:-1]:
        parts[at] = 1
    return () if do_parts_meet(row, parts) else row


def corners_turned_in(corners, pair):
    """The corners behind the turning in of a headland; raises BadMouth for what is none."""
    row = row_behind(corners, pair)
    if not row:
        raise BadMouth("pair")
    return row


def headlands(fence):
    """All headlands, ascending."""
    want_fence(fence, "fence")
    if fence.many > MOST_TRIED:
        raise TooMany("corners", MOST_TRIED)
    numbers = list(range(fence.many))
    return tuple([(p, q) for p in numbers for q in numbers if row_behind(fence.corners, (p, q))])


def turned_in(fence, pair):
    """The fence that a headland makes, turned in."""
    want_fence(fence, "fence")
    return Fence(corners_turned_in(fence.corners, pair))
