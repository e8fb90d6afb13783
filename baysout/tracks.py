"""Tracks: where the sides and the corners of a fence come to along films."""

from baysout.checks import is_integer
from baysout.ends import row_by, walked_from
from baysout.errors import BadNumber, Misfit
from baysout.fences import want_fence
from baysout.films import rows_along, want_film
from baysout.mouths import numbers_from
from baysout.wants import want_number


def turned_about(row, mouth):
    """The numbers of the sides at the places 0 to n - 1, where a mouth has been turned out."""
    many = len(row)
    # The sides of its stretch, by their places modulo n; those behind corner 0 belong to the next round.
    spots = numbers_from(mouth[0], mouth[1], many)[:-1]
    rounds = [0 if spot >= mouth[0] else 1 for spot in spots]
    sides = [row[spot] + many * more for spot, more in zip(spots, rounds)]
    placed = list(row)
    for spot, more, side in zip(spots, rounds, sides[::-1]):
        placed[spot] = side - many * more
    return placed


def sides_along(many, film):
    """The numbers of the sides at the places 0 to n - 1 behind a film of a fence of so many corners."""
    row = list(range(many))
    for mouth in film:
        row = turned_about(row, mouth)
    return row


def places_along(many, film):
    """The places of the sides 0 to n - 1 behind a film of a fence of so many corners."""
    places = [0] * many
    for place, side in enumerate(sides_along(many, film)):
        places[side % many] = place - many * (side // many)
    return places


def want_played(fence, film):
    """Raises what played raises."""
    want_fence(fence, "fence")
    want_film(film)
    rows_along(fence.corners, film)


def sides_behind(fence, film):
    """The numbers of the sides that stand at the places 0 to n - 1 behind a film."""
    want_played(fence, film)
    return tuple(sides_along(fence.many, film))


def places_behind(fence, film):
    """The places at which the sides 0 to n - 1 stand behind a film."""
    want_played(fence, film)
    return tuple(places_along(fence.many, film))


def track_of(fence, film, at):
    """The points at which a corner stands, at all stages of a film."""
    want_fence(fence, "fence")
    want_film(film)
    want_number(at, "at", 0, fence.many - 1)
    return tuple([row[at] for row in rows_along(fence.corners, film)])


def are_integers(value, many):
    """Whether any value is a list of so many integers."""
    if not isinstance(value, (list, tuple)) or len(value) != many:
        return False
    return all([is_integer(number) for number in value])


def are_places(places):
    """Whether integers are places: with unlike remainders, and together as much as the numbers from 0 on."""
    many = len(places)
    return len(set([place % many for place in places])) == many and sum(places) == sum(range(many))


def corners_by(fence, places):
    """The corners by places."""
    want_fence(fence, "fence")
    if not are_integers(places, fence.many):
        raise BadNumber("places")
    if not are_places(places):
        raise Misfit("places")
    spot, row = row_by(fence, places)
    return walked_from(spot, row)
