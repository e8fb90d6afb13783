"""The hull of a fence, and whether one fence covers another."""

from baysout.fences import want_fence
from baysout.outlines import place_in, stretches_of, turn_at
from baysout.points import cross_of, do_cross, lies_between


def half_hull(spots):
    """Of points in order, those at which one turns left where all others are at the left hand."""
    kept = []
    for spot in spots:
        while len(kept) > 1 and cross_of(kept[-2], kept[-1], spot) <= 0:
            kept.pop()
        kept.append(spot)
    return kept


def hull_among(corners):
    """The numbers of the hull corners among the corners of a fence, ascending."""
    spots = sorted([(x, y, at) for at, (x, y) in enumerate(corners)])
    # Each half ends where the other one begins.
    lower, upper = half_hull(spots), half_hull(spots[::-1])
    return tuple(sorted([at for _, _, at in lower[:-1] + upper[:-1]]))


def edges_among(corners):
    """The hull edges among the corners of a fence, ascending."""
    hull = hull_among(corners)
    return tuple(zip(hull, hull[1:] + hull[:1]))


def are_convex(corners):
    """Whether a fence of these corners turns right nowhere."""
    return all([turn_at(corners, at) >= 0 for at in range(len(corners))])


def hull_of(fence):
    """The numbers of the hull corners, ascending."""
    want_fence(fence, "fence")
    return hull_among(fence.corners)


def hull_edges(fence):
    """The hull edges, ascending."""
    want_fence(fence, "fence")
    return edges_among(fence.corners)


def is_convex(fence):
    """Whether the fence turns right nowhere."""
    want_fence(fence, "fence")
    return are_convex(fence.corners)


def do_sides_cross(one, other):
    """Whether a side of one fence and a side of the other cross at a point that is no corner."""
    stretches = stretches_of(other.corners)
    for start, end in stretches_of(one.corners):
        if any([do_cross(start, end, low, high) for low, high in stretches]):
            return True
    return False


def pieces_of(start, end, corners):
    """The pieces into which the corners that lie on a stretch part it."""
    spots = sorted([start, end] + [corner for corner in corners if lies_between(start, end, corner)])
    return list(zip(spots, spots[1:]))


def covers(one, other):
    """Whether all of the other fence's land is land of the one."""
    want_fence(one, "one")
    want_fence(other, "other")
    if do_sides_cross(one, other):
        return False
    # Where no sides cross, they meet in corners, or in whole pieces between corners, only: so
    # each piece of the other fence is on the land wholly, or off it but for its ends, as its
    # middle is. A fence's land has no holes: where all of a rim is on it, so is what it goes round.
    doubled = [(2 * x, 2 * y) for x, y in one.corners]
    for start, end in stretches_of(other.corners):
        for low, high in pieces_of(start, end, one.corners):
            if place_in(doubled, (low[0] + high[0], low[1] + high[1])) == "off":
                return False
    return True
