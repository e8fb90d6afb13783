"""Mouths: where a fence leaves its hull, into bays.

What is told of corners expects those of a fence, as tuples.
"""

from baysout.checks import is_point, is_within
from baysout.errors import BadMouth
from baysout.fences import want_fence
from baysout.hulls import edges_among
from baysout.outlines import twice_area
from baysout.points import cross_of


def numbers_from(p, q, many):
    """The numbers of corners from p to q, counted round."""
    last = q if q >= p else q + many
    return [at % many for at in range(p, last + 1)]


def edge_rows(corners):
    """For each hull edge the corners on its line: pairs of how far on from its first corner, and the number."""
    rows = []
    for a, b in edges_among(corners):
        stretch = numbers_from(a, b, len(corners))
        on_line = [cross_of(corners[a], corners[b], corners[at]) == 0 for at in stretch]
        rows.append([(far, at) for far, at in enumerate(stretch) if on_line[far]])
    return rows


def leaves_line(row, k, j):
    """Whether the fence leaves the line of a row somewhere from its entry k on to its entry j."""
    return k < j and row[j][0] - row[k][0] > j - k


def first_among(corners):
    """The first mouths of all hull edges that have one, ascending."""
    mouths = []
    for row in edge_rows(corners):
        found = [row[j][1] for j in range(1, len(row)) if leaves_line(row, j - 1, j)]
        if found:
            mouths.append((row[0][1], found[0]))
    return tuple(sorted(mouths))


def are_numbers(corners, value):
    """Whether any value is a pair of numbers of these corners."""
    if not is_point(value):
        return False
    return is_within(value[0], 0, len(corners) - 1) and is_within(value[1], 0, len(corners) - 1)


def has_mouth(corners, value):
    """Whether any value is a mouth of a fence of these corners."""
    if not are_numbers(corners, value):
        return False
    # A line that has no corner at its right goes along a hull edge, and corners that are
    # on it come along the fence as they come along the line: so p comes ahead of q.
    p, q = value
    turns = [cross_of(corners[p], corners[q], corner) for corner in corners]
    return min(turns) >= 0 and max([turns[at] for at in numbers_from(p, q, len(corners))]) > 0


def stretch_along(corners, mouth):
    """The numbers of the corners of a mouth's stretch; raises BadMouth for any value that is no mouth."""
    if not has_mouth(corners, mouth):
        raise BadMouth("mouth")
    return numbers_from(mouth[0], mouth[1], len(corners))


def mouths_of(fence):
    """All mouths, ascending."""
    want_fence(fence, "fence")
    mouths = []
    for row in edge_rows(fence.corners):
        for k, (_, p) in enumerate(row):
            mouths.extend([(p, row[j][1]) for j in range(k + 1, len(row)) if leaves_line(row, k, j)])
    return tuple(sorted(mouths))


def first_mouths(fence):
    """The first mouths, ascending."""
    want_fence(fence, "fence")
    return first_among(fence.corners)


def stretch_of(fence, mouth):
    """The numbers of the corners of the mouth's stretch, in the order along the fence."""
    want_fence(fence, "fence")
    return tuple(stretch_along(fence.corners, mouth))


def bay_area2(fence, mouth):
    """Twice the area of all bays between the mouth's line and its stretch."""
    # Back along the mouth's line the stretch is closed; it goes round the bays at its right hand.
    return -twice_area([fence.corners[at] for at in stretch_of(fence, mouth)])
