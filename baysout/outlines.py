"""Rows of points that are gone round, as tuples: what must be so for them to be a fence's corners."""

from baysout.checks import is_point
from baysout.points import are_joined, cross_of, lies_on

LEAST_CORNERS = 3
MOST_CORNERS = 400


def stretches_of(corners):
    """For each side the pair of the corners at its ends."""
    return list(zip(corners, corners[1:] + corners[:1]))


def sides_of(corners):
    """For each corner the next one less this one, as pairs."""
    return tuple([(other[0] - one[0], other[1] - one[1]) for one, other in stretches_of(corners)])


def turn_at(corners, at):
    """Above 0 if one turns left at a corner, below 0 if right, 0 if one goes straight on or back."""
    return cross_of(corners[at - 1], corners[at], corners[(at + 1) % len(corners)])


def boxed_side(corners, at):
    """The least and the greatest x, the least and the greatest y of a side, and its number."""
    one, other = corners[at], corners[(at + 1) % len(corners)]
    left, right = min(one[0], other[0]), max(one[0], other[0])
    low, high = min(one[1], other[1]), max(one[1], other[1])
    return (left, right, low, high, at)


def do_sides_meet(corners, one, other):
    """Whether two sides, the boxes about which meet, are no neighbours and have a point in common."""
    many = len(corners)
    if (one - other) % many in (1, many - 1):
        return False
    after, behind = (one + 1) % many, (other + 1) % many
    return are_joined(corners[one], corners[after], corners[other], corners[behind])


def do_parts_meet(corners, parts):
    """Whether any two sides of unlike parts that are no neighbours have a point in common.

    A list tells for each side the part to which it belongs.
    """
    # By their least x: each side is compared only until one begins beyond its greatest x.
    boxes = sorted([boxed_side(corners, at) for at in range(len(corners))])
    for k, (_, right, low, high, one) in enumerate(boxes):
        for left, _, bottom, top, other in boxes[k + 1:]:
            if left > right:
                break
            if bottom > high or low > top or parts[one] == parts[other]:
                continue
            if do_sides_meet(corners, one, other):
                return True
    return False


def twice_area(corners):
    """Twice the area that is gone round, the land at the left hand; below 0 if it is at the right."""
    return sum([one[0] * other[1] - other[0] * one[1] for one, other in stretches_of(corners)])


def box_about(points):
    """The least and the greatest x, the least and the greatest y of some points."""
    across, up = [x for x, _ in points], [y for _, y in points]
    return (min(across), max(across), min(up), max(up))


def are_points(value):
    """Whether a value is a list of as many points as a fence may have."""
    if not isinstance(value, (list, tuple)):
        return False
    if len(value) < LEAST_CORNERS or len(value) > MOST_CORNERS:
        return False
    return all([is_point(point) for point in value])


def are_corners(value):
    """Whether any value is a list of the corners of a fence."""
    if not are_points(value):
        return False
    corners = tuple([tuple(point) for point in value])
    # A corner that stands twice, and one at which one goes straight back, need no look of their
    # own: there the sides ahead and behind meet, or of a triangle nothing is gone round.
    return twice_area(corners) > 0 and not do_parts_meet(corners, list(range(len(corners))))


def place_in(corners, point):
    """Where a point is, as a word, beside a fence of these corners."""
    rounds = 0
    for at, other in enumerate(corners):
        one = corners[at - 1]
        if lies_on(one, other, point):
            return "rim"
        # Each side that goes up, or down, past the point's height on its right is counted.
        if one[1] <= point[1] < other[1] and cross_of(one, other, point) > 0:
            rounds += 1
        if other[1] <= point[1] < one[1] and cross_of(one, other, point) < 0:
            rounds -= 1
    return "off" if rounds == 0 else "within"
