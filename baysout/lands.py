"""Whether the lands of fences have points in common.

What is told of corners expects those of a fence, as tuples.
"""

from baysout.mouths import numbers_from
from baysout.outlines import box_about, place_in, stretches_of
from baysout.points import are_joined
from baysout.turnings import half_round


def boxed(one, other):
    """The least and the greatest x, the least and the greatest y of a stretch, and its ends."""
    left, right = min(one[0], other[0]), max(one[0], other[0])
    return (left, right, min(one[1], other[1]), max(one[1], other[1]), one, other)


def do_boxes_meet(box, other):
    """Whether two boxes have a point in common."""
    if box[1] < other[0] or other[1] < box[0]:
        return False
    return box[2] <= other[3] and other[2] <= box[3]


class Land:
    """The corners of a fence, the box about them, and its sides as boxed tells them, by their least x."""

    def __init__(self, corners):
        self.corners = corners
        self.box = box_about(corners)
        self.boxed_sides = sorted([boxed(one, other) for one, other in stretches_of(corners)])


def do_any_meet(rows, others):
    """Whether one of some stretches and one of others, as boxed tells them, have a point in common.

    The others come by their least x.
    """
    for left, right, low, high, one, other in rows:
        for start, stop, bottom, top, third, fourth in others:
            if start > right:
                break
            if stop < left or bottom > high or top < low:
                continue
            if are_joined(one, other, third, fourth):
                return True
    return False


def within_box(rows, box):
    """Those of some stretches, as boxed tells them, whose boxes meet a box."""
    return [row for row in rows if do_boxes_meet(row, box)]


def are_lands_apart(one, other):
    """Whether two Lands have no point in common."""
    if not do_boxes_meet(one.box, other.box):
        return True
    if do_any_meet(within_box(one.boxed_sides, other.box), within_box(other.boxed_sides, one.box)):
        return False
    return place_in(other.corners, one.corners[0]) == "off" and place_in(one.corners, other.corners[0]) == "off"


def meeting_numbers(rows):
    """Of fences, told by their corners, the pairs of the numbers of those that are not apart, ascending."""
    lands = [Land(row) for row in rows]
    numbers = list(range(len(rows)))
    return [(k, j) for k in numbers for j in numbers[k + 1:] if not are_lands_apart(lands[k], lands[j])]


def gained_box(corners, p, q):
    """The box about the bays of a mouth, and about what they become when it is turned out."""
    left, right, low, high = box_about([corners[at] for at in numbers_from(p, q, len(corners))])
    across, up = corners[p][0] + corners[q][0], corners[p][1] + corners[q][1]
    return (min(left, across - right), max(right, across - left), min(low, up - high), max(high, up - low))


def land_behind(land, mouth):
    """The Land behind the turning out of a mouth."""
    return Land(half_round(land.corners, numbers_from(mouth[0], mouth[1], len(land.corners))))


def met_behind(lands, at, mouth):
    """The numbers of the Lands that are not apart from what comes of Land number at when a mouth is turned out.

    Ahead of it all are two by two apart: so those are met by the bays, or by what these become.
    """
    corners = lands[at].corners
    box = gained_box(corners, mouth[0], mouth[1])
    near = [k for k, land in enumerate(lands) if k != at and do_boxes_meet(box, land.box)]
    if not near:
        return []
    stretch = numbers_from(mouth[0], mouth[1], len(corners))
    row = half_round(corners, stretch)
    turned = [boxed(row[one], row[other]) for one, other in zip(stretch, stretch[1:])]
    return [k for k in near if do_any_meet(turned, within_box(lands[k].boxed_sides, box))
            or place_in(row, lands[k].corners[0]) != "off"]
