"""Points, lines through them, and stretches between them.

side_of and do_meet check what they are passed; the others expect points, as tuples.
"""

from baysout.errors import Misfit
from baysout.wants import want_point


def cross_of(one, other, point):
    """Above 0 if the point lies to the left of the line from one to other, below 0 to the right, 0 on it."""
    along = (other[0] - one[0]) * (point[1] - one[1])
    return along - (other[1] - one[1]) * (point[0] - one[0])


def side_of(one, other, point):
    """1 if the point lies to the left of the line from one to other, 0 on it, -1 to the right."""
    want_point(one, "one")
    want_point(other, "other")
    want_point(point, "point")
    if tuple(one) == tuple(other):
        raise Misfit("other")
    cross = cross_of(one, other, point)
    if cross == 0:
        return 0
    return 1 if cross > 0 else -1


def boxes_meet(one, other, third, fourth):
    """Whether the upright boxes about two stretches have a point in common."""
    for at in (0, 1):
        if max(one[at], other[at]) < min(third[at], fourth[at]):
            return False
        if max(third[at], fourth[at]) < min(one[at], other[at]):
            return False
    return True


def are_beside(one, other, third, fourth):
    """Whether third and fourth both lie to the left of the line from one to other, or both to the right."""
    first = cross_of(one, other, third)
    second = cross_of(one, other, fourth)
    return (first > 0 and second > 0) or (first < 0 and second < 0)


def are_joined(one, other, third, fourth):
    """Whether two stretches have a point in common, the boxes about which have one."""
    # The boxes decide where all four points lie on one line, or a stretch is one point.
    if are_beside(one, other, third, fourth):
        return False
    return not are_beside(third, fourth, one, other)


def do_meet(one, other, third, fourth):
    """Whether two stretches have a point in common, the ends too."""
    want_point(one, "one")
    want_point(other, "other")
    want_point(third, "third")
    want_point(fourth, "fourth")
    return boxes_meet(one, other, third, fourth) and are_joined(one, other, third, fourth)


def are_parted(one, other, third, fourth):
    """Whether the line from one to other has third and fourth on unlike sides, none of them on it."""
    first = cross_of(one, other, third)
    second = cross_of(one, other, fourth)
    return (first > 0 and second < 0) or (first < 0 and second > 0)


def do_cross(one, other, third, fourth):
    """Whether two stretches meet in one point that is no end of either."""
    return are_parted(one, other, third, fourth) and are_parted(third, fourth, one, other)


def lies_on(one, other, point):
    """Whether a point lies on the stretch from one to other, the ends too."""
    # Along a line points are in order as Python compares pairs.
    if cross_of(one, other, point) != 0:
        return False
    return min(one, other) <= point <= max(one, other)


def lies_between(one, other, point):
    """Whether a point lies on the stretch from one to other, but at neither end."""
    return lies_on(one, other, point) and point != one and point != other
