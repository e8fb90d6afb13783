"""Stories: films of a fence that are told in lines."""

from baysout.ends import field_of
from baysout.errors import BadFilm, BadText
from baysout.fences import Fence, fence_in, want_fence
from baysout.films import MOST_TURNINGS, rows_along, want_film
from baysout.hulls import are_convex
from baysout.lifts import fro_along
from baysout.mouths import has_mouth, numbers_from
from baysout.outlines import sides_of, twice_area
from baysout.texts import are_strings, is_number, items_of, written
from baysout.turnings import half_round


def first_line(fence):
    """The line that tells a fence."""
    return f"fence {str(fence)}"


def turning_line(corners, mouth, row):
    """The line that tells the turning out of a mouth, which makes a row of corners."""
    p, q = mouth
    bay = -twice_area([corners[at] for at in numbers_from(p, q, len(corners))])
    land = f"{written(twice_area(corners))} to {written(twice_area(row))}"
    fro = f"{fro_along(sides_of(corners))} to {fro_along(sides_of(row))}"
    return f"out {p} {q} : bay {written(bay)} , land {land} , to and fro {fro}"


def last_line(corners, field):
    """The last line of a story that comes to these corners, the fence having a field with this text."""
    return f"ends in {field}" if are_convex(corners) else f"goes on to {field}"


def field_text(fence):
    """The text of the field of a fence."""
    return str(Fence(field_of(fence)))


def story_of(fence, film):
    """The story of a fence by a film, line by line."""
    want_fence(fence, "fence")
    want_film(film)
    rows = rows_along(fence.corners, film)
    turnings = [turning_line(row, mouth, there) for row, mouth, there in zip(rows, film, rows[1:])]
    return tuple([first_line(fence)] + turnings + [last_line(rows[-1], field_text(fence))])


def fence_told(line):
    """The fence that a first line tells; None if it tells none."""
    items = items_of(line)
    if items[0] != "fence":
        return None
    try:
        return fence_in(items, 1)
    except BadText:
        return None


def mouth_told(corners, line):
    """The mouth of a fence of these corners that the line of a turning tells; None if it tells none."""
    items = items_of(line)
    if len(items) < 3 or not is_number(items[1]) or not is_number(items[2]):
        return None
    mouth = (int(items[1]), int(items[2]))
    return mouth if has_mouth(corners, mouth) else None


def row_told(corners, mouth, line):
    """The corners behind the turning that a line tells; an empty tuple if the line isn't just as it must be."""
    row = half_round(corners, numbers_from(mouth[0], mouth[1], len(corners)))
    return row if line == turning_line(corners, mouth, row) else ()


def film_told(fence, lines):
    """The film that lines tell behind that of a fence, and the number of the first one that is wrong, None for none."""
    corners, film, field = fence.corners, [], field_text(fence)
    for at, line in enumerate(lines[1:], start=1):
        if line == last_line(corners, field):
            return film, (None if at == len(lines) - 1 else at + 1)
        mouth = mouth_told(corners, line)
        corners = row_told(corners, mouth, line) if mouth is not None and len(film) < MOST_TURNINGS else ()
        if not corners:
            return film, at
        film.append(mouth)
    return film, len(lines)


def told_by_lines(lines):
    """What lines tell: a fence, None for none, a film, and the number of the first wrong line, None for none."""
    if not lines:
        return None, (), 0
    fence = fence_told(lines[0])
    if fence is None:
        return None, (), 0
    film, wrong = film_told(fence, lines)
    return fence, tuple(film), wrong


def want_lines(value):
    """Raises BadFilm for any value that is no list of strings."""
    if not are_strings(value):
        raise BadFilm("lines")


def wrong_line(lines):
    """The number of the first line with which no story begins; None if the lines are a story."""
    want_lines(lines)
    _, _, wrong = told_by_lines(lines)
    return wrong


def story_in(lines):
    """The fence and the film whose story the lines are."""
    want_lines(lines)
    fence, film, wrong = told_by_lines(lines)
    if wrong is not None:
        raise BadFilm("lines")
    return fence, film


def shows_story(fence, value):
    """Whether any value is a story of the fence, by whichever film."""
    want_fence(fence, "fence")
    if not are_strings(value):
        return False
    told, _, wrong = told_by_lines(value)
    return wrong is None and told == fence
