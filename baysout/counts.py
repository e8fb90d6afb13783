"""How many turnings a fence takes, at least and at most, and who has the last one."""

from baysout.errors import BadMouth
from baysout.fences import want_fence
from baysout.lifts import directions_of, most_bites, ranks_of
from baysout.mouths import has_mouth
from baysout.papers import Denial, Paper
from baysout.plays import Plays


class Least(Paper):
    """A plain film that ends and has as few turnings as can be."""

    def __init__(self, film):
        super().__init__("least", film)
        self.film = self.parts[0]


class Most(Paper):
    """A plain film that ends and has as many turnings as can be."""

    def __init__(self, film):
        super().__init__("most", film)
        self.film = self.parts[0]


class First(Paper):
    """A first mouth by which the one who begins wins."""

    def __init__(self, mouth):
        super().__init__("first", mouth)
        self.mouth = self.parts[0]


class Second(Denial):
    """The one who begins does not win."""

    def __init__(self):
        super().__init__("second")


def plays_of(fence):
    """All plain films of a fence."""
    want_fence(fence, "fence")
    return Plays(fence.corners)


def bite(fence, mouth):
    """By how much to and fro gets less when a mouth is turned out."""
    want_fence(fence, "fence")
    if not has_mouth(fence.corners, mouth):
        raise BadMouth("mouth")
    p, q = mouth
    # Counted on from p.
    last = q if q > p else q + fence.many
    ranks, more = ranks_of(fence), len(directions_of(fence))
    ahead, end, start, behind = [ranks[at % fence.many] + more * (at // fence.many)
                                 for at in (p - 1, last - 1, p, last)]
    return 2 * (min(start, behind) - max(ahead, end))


def at_most(fence):
    """Half of T - s: no plain film has more turnings."""
    want_fence(fence, "fence")
    return most_bites(fence)


def all_stages(fence):
    """How many unlike stages of the fence there are."""
    return len(plays_of(fence).rows)


def film_counts(fence):
    """How many plain films that end have so many turnings: pairs (turnings, films), ascending."""
    moves = plays_of(fence).moves
    counts, turnings, ways = [], 0, {0: 1}
    while ways:
        films = sum([many for at, many in ways.items() if not moves[at]])
        if films > 0:
            counts.append((turnings, films))
        following = {}
        for at, many in ways.items():
            for there in moves[at].values():
                following[there] = following.get(there, 0) + many
        turnings, ways = turnings + 1, following
    return tuple(counts)


def least_film(fence):
    """A plain film that ends and has as few turnings as can be, as a paper."""
    plays = plays_of(fence)
    return Least(plays.film_along(plays.turnings_left()[0]))


def most_film(fence):
    """A plain film that ends and has as many turnings as can be, as a paper."""
    plays = plays_of(fence)
    return Most(plays.film_along(plays.turnings_left()[1]))


def winner(fence):
    """Who wins if two turn out first mouths by turns, as a paper."""
    mouths = plays_of(fence).winning_mouths()
    return First(mouths[0]) if mouths else Second()
