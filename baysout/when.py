"""When points come to land: along a film, as soon as can be, as late as can be, ever."""

from baysout.counts import plays_of
from baysout.ends import field_of
from baysout.fences import want_fence
from baysout.films import rows_along, want_film
from baysout.outlines import place_in, twice_area
from baysout.papers import Denial, Paper
from baysout.wants import want_point


class Soon(Paper):
    """A plain film with as few turnings as can be, behind which a point is on land."""

    def __init__(self, film):
        super().__init__("soon", film)
        self.film = self.parts[0]


class Late(Paper):
    """A plain film with as many turnings as can be, behind which a point is not on land."""

    def __init__(self, film):
        super().__init__("late", film)
        self.film = self.parts[0]


class Never(Denial):
    """A point never comes to land."""

    def __init__(self):
        super().__init__("never")


class Already(Denial):
    """A point is on land already."""

    def __init__(self):
        super().__init__("already")


def is_on_land(corners, point):
    """Whether a point is on the land of a fence of these corners."""
    return place_in(corners, tuple(point)) != "off"


def when(fence, film, point):
    """The number of the stage at which a point comes to land along a film, None if at none."""
    want_fence(fence, "fence")
    want_film(film)
    want_point(point, "point")
    for at, row in enumerate(rows_along(fence.corners, film)):
        if is_on_land(row, point):
            return at
    return None


def gained(fence, film):
    """For each turning of a film how many points it gains."""
    want_fence(fence, "fence")
    want_film(film)
    twice = [twice_area(row) for row in rows_along(fence.corners, film)]
    # The same sides come in another order: so there are as many points on the rim as ahead of
    # the turning, and twice the area becomes greater by twice the points that are gained.
    return tuple([(behind - ahead) // 2 for ahead, behind in zip(twice, twice[1:])])


def land_ever(fence, point):
    """Whether a point is on land: "now", "later" or "never"."""
    want_fence(fence, "fence")
    want_point(point, "point")
    if is_on_land(fence.corners, point):
        return "now"
    return "later" if is_on_land(field_of(fence), point) else "never"


def plays_with(fence, point):
    """All plain films of a fence, and for each stage whether a point is on land then."""
    want_fence(fence, "fence")
    want_point(point, "point")
    plays = plays_of(fence)
    return plays, [is_on_land(row, point) for row in plays.rows]


def soonest_stages(plays, landed):
    """The numbers of the stages on whose land the point is and to which a film leads with as few turnings as can be."""
    least, _ = plays.turnings_made()
    few = min([least[at] for at, there in enumerate(landed) if there], default=0)
    return [at for at, there in enumerate(landed) if there and least[at] == few]


def latest_stages(plays, landed):
    """The numbers of the stages off whose land the point is and to which a film leads with as many as can be."""
    # All that leads to a stage off whose land the point is has no more land: so on all of the way it is off.
    _, most = plays.turnings_made()
    many = max([most[at] for at, there in enumerate(landed) if not there], default=0)
    return [at for at, there in enumerate(landed) if not there and most[at] == many]


def soonest(fence, point):
    """A film behind which the point comes to land as soon as can be, as a paper."""
    plays, landed = plays_with(fence, point)
    found = soonest_stages(plays, landed)
    return Soon(plays.film_to(plays.turnings_made()[0], found[0])) if found else Never()


def latest(fence, point):
    """A film behind which the point is not on land yet, as late as can be, as a paper."""
    plays, landed = plays_with(fence, point)
    found = latest_stages(plays, landed)
    return Late(plays.film_to(plays.turnings_made()[1], found[0])) if found else Already()
