"""Films: mouths that are turned out one after another."""

from baysout.checks import is_point, is_within
from baysout.errors import BadFilm, BadLine, BadMouth, BadText, TooMany
from baysout.fences import Fence, want_fence
from baysout.lifts import most_bites
from baysout.mouths import first_among, has_mouth, numbers_from
from baysout.outlines import MOST_CORNERS
from baysout.texts import is_number, items_of
from baysout.turnings import half_round

MOST_TURNINGS = 1000


def is_number_of_film(value):
    """Whether any value is a number that may stand in a film."""
    return is_within(value, 0, MOST_CORNERS - 1)


def is_pair_of_film(value):
    """Whether any value is a pair that may stand in a film."""
    if not is_point(value) or value[0] == value[1]:
        return False
    return is_number_of_film(value[0]) and is_number_of_film(value[1])


def is_film(value):
    """Whether any value is a film, of mouths or not."""
    if not isinstance(value, (list, tuple)) or len(value) > MOST_TURNINGS:
        return False
    return all([is_pair_of_film(pair) for pair in value])


def want_film(value):
    """Raises BadFilm for any value that is no film."""
    if not is_film(value):
        raise BadFilm("film")


def rows_along(corners, film):
    """The corners ahead of a film, and those behind each turning; raises BadLine for what is no mouth then."""
    rows = [corners]
    for at, pair in enumerate(film):
        last = rows[-1]
        if not has_mouth(last, pair):
            raise BadLine(at, BadMouth("mouth"))
        rows.append(half_round(last, numbers_from(pair[0], pair[1], len(last))))
    return rows


def played(fence, film):
    """The fence behind all turnings of a film."""
    want_fence(fence, "fence")
    want_film(film)
    return Fence(rows_along(fence.corners, film)[-1])


def stages(fence, film):
    """The fence, and the fences behind each turning of a film."""
    want_fence(fence, "fence")
    want_film(film)
    return tuple([Fence(row) for row in rows_along(fence.corners, film)])


def film_out(fence):
    """A film of first mouths that ends: always the least one that there is then."""
    want_fence(fence, "fence")
    if most_bites(fence) > MOST_TURNINGS:
        raise TooMany("turnings", MOST_TURNINGS)
    film, corners = [], fence.corners
    mouths = first_among(corners)
    while mouths:
        p, q = mouths[0]
        film.append((p, q))
        corners = half_round(corners, numbers_from(p, q, len(corners)))
        mouths = first_among(corners)
    return tuple(film)


def film_text(film):
    """The text of a film."""
    want_film(film)
    if not film:
        return "-"
    return " / ".join([f"{p} {q}" for p, q in film])


def can_come(items, at):
    """Whether an item can stand behind those ahead of it, in the text of a film of some pairs."""
    item = items[at]
    if at >= 3 * MOST_TURNINGS - 1:
        return False
    if at % 3 == 2:
        return item == "/"
    if not is_number(item) or not is_number_of_film(int(item)):
        return False
    return at % 3 == 0 or item != items[at - 1]


def film_of(text):
    """The film with this text."""
    items = items_of(text)
    if items[0] == "-":
        if len(items) > 1:
            raise BadText(0, 1)
        return ()
    for at in range(len(items)):
        if not can_come(items, at):
            raise BadText(0, at)
    if len(items) % 3 != 2:
        raise BadText(0, len(items))
    return tuple([(int(items[at]), int(items[at + 1])) for at in range(0, len(items), 3)])
