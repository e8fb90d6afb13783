"""Whether films end, and whether papers that tell an end are right."""

from baysout.checks import is_point
from baysout.ends import Ended, field_of
from baysout.errors import BadLine
from baysout.fences import want_fence
from baysout.films import is_film, rows_along
from baysout.hulls import are_convex


def ends_at(fence, film):
    """Whether any value is a film of mouths of the fence that ends."""
    want_fence(fence, "fence")
    if not is_film(film):
        return False
    try:
        last = rows_along(fence.corners, film)[-1]
    except BadLine:
        return False
    return are_convex(last)


def are_same_points(value, points):
    """Whether any value is a list of just these points."""
    if not isinstance(value, (list, tuple)) or len(value) != len(points):
        return False
    # True, and 1.0, are equal to 1, but are no integers.
    return all([is_point(one) and tuple(one) == other for one, other in zip(value, points)])


def shows_ended(fence, value):
    """Whether any value is a right Ended."""
    want_fence(fence, "fence")
    if not isinstance(value, Ended) or not are_same_points(value.field, field_of(fence)):
        return False
    return ends_at(fence, value.film)
