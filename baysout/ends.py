"""Ends: the field that is left, whichever mouths are turned out."""

from baysout.fences import Fence, want_fence
from baysout.films import film_out
from baysout.lifts import directions_of, ranks_of
from baysout.outlines import turn_at
from baysout.papers import Paper
from baysout.wants import want_point


class Ended(Paper):
    """The corners of the field, and a film that ends."""

    def __init__(self, field, film):
        super().__init__("ended", field, film)
        self.field, self.film = self.parts


def places_of(fence):
    """The places of the sides 0 to n - 1 in the sorted row."""
    many, round_of_ranks = fence.many, len(directions_of(fence))
    ranks = ranks_of(fence)
    rounds = [rank // round_of_ranks for rank in ranks]
    # Of each side the one with rounds 0: these n come one behind another in the sorted row.
    row = sorted([(rank - round_of_ranks * more, at - many * more, at)
                  for at, (rank, more) in enumerate(zip(ranks, rounds))])
    # From 0 on they would add up as the numbers 0 to n - 1 do; so the rounds are taken off again.
    less = sum(rounds)
    places = [0] * many
    for place, (_, _, at) in enumerate(row):
        places[at] = place + many * rounds[at] - less
    return places


def row_by(fence, places):
    """The pair of the corner at place 0 and of the sides at the places 0 to n - 1, the sides having these places."""
    many = fence.many
    x, y = fence.corners[0]
    row = [(0, 0)] * many
    for side, place in zip(fence.sides, places):
        x -= side[0] * (place // many)
        y -= side[1] * (place // many)
        row[place % many] = side
    return ((x, y), tuple(row))


def walked_from(spot, row):
    """The corners that one comes to from the first one, along sides that lead round."""
    corners = [spot]
    for x, y in row[:-1]:
        corners.append((corners[-1][0] + x, corners[-1][1] + y))
    return tuple(corners)


def sorted_row(fence):
    """The pair of the corner at place 0 and of the sides at the places 0 to n - 1."""
    want_fence(fence, "fence")
    return row_by(fence, places_of(fence))


def field_of(fence):
    """The corners of the field."""
    spot, row = sorted_row(fence)
    corners = walked_from(spot, row)
    kept = [corner for at, corner in enumerate(corners) if turn_at(corners, at) != 0]
    least = kept.index(min(kept))
    return tuple(kept[least:] + kept[:least])


def end_of(fence):
    """The fence of the field."""
    want_fence(fence, "fence")
    return Fence(field_of(fence))


def measures_in(pairs, by):
    """What a x + b y comes to for some pairs, the point by being (a, b)."""
    return [by[0] * x + by[1] * y for x, y in pairs]


def way_in(fence, by):
    """The way of the fence in a direction."""
    want_fence(fence, "fence")
    want_point(by, "by")
    return sum([abs(measure) for measure in measures_in(fence.sides, by)])


def width_in(fence, by):
    """The width of the fence in a direction."""
    want_fence(fence, "fence")
    want_point(by, "by")
    measures = measures_in(fence.corners, by)
    return max(measures) - min(measures)


def ended(fence):
    """The corners of the field, and a film that ends, as a paper."""
    want_fence(fence, "fence")
    return Ended(field_of(fence), film_out(fence))
