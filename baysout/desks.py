"""A desk: it is told lines, keeps fences by names, and takes back what was done."""

from baysout.ends import field_of
from baysout.errors import BadFilm, BadLine, BadMouth, BadNumber, BadText, Misfit, NoName, TooMany, Twice
from baysout.fences import Fence, corners_in, where
from baysout.films import is_number_of_film
from baysout.lifts import lifts_of, most_bites
from baysout.mouths import first_among
from baysout.names import is_name
from baysout.outlines import are_corners, twice_area
from baysout.steps import made_by
from baysout.texts import are_strings, is_number, items_of, written
from baysout.words import fence_of, is_word

MOST_DEEDS = 200

# The forms of the items behind each word; behind those of new stands the text of a fence.
FORMS = {
    "new": ("name",),
    "word": ("name", "letters"),
    "copy": ("name", "name"),
    "out": ("name", "number", "number"),
    "in": ("name", "number", "number"),
    "put": ("name", "number", "integer", "integer"),
    "drop": ("name", "number"),
    "begin": ("name", "number"),
    "forget": ("name",),
    "corners": ("name",),
    "where": ("name", "integer", "integer"),
    "mouths": ("name",),
    "lifts": ("name",),
    "most": ("name",),
    "end": ("name",),
    "alike": ("name", "name"),
    "undo": (),
    "redo": (),
}
DEEDS = ("new", "word", "copy", "out", "in", "put", "drop", "begin", "forget")
# The deeds that keep a fence by a name more.
KEEPING = ("new", "word", "copy")


def has_form(item, form):
    """Whether an item is of a form."""
    if form == "name":
        return is_name(item)
    if form == "letters":
        return is_word(item)
    return is_number(item) and (form == "integer" or is_number_of_film(int(item)))


def want_text(items, begin):
    """Raises BadText if the items from a number on are no text of a fence."""
    if not are_corners(corners_in(items, begin)):
        raise BadText(0, len(items) - 1)


def items_told(line):
    """The items of a line; raises BadText for the first one that cannot stand."""
    items = items_of(line)
    if items[0] not in FORMS:
        raise BadText(0, 0)
    forms = FORMS[items[0]]
    for at, form in enumerate(forms, start=1):
        if at >= len(items) or not has_form(items[at], form):
            raise BadText(0, at)
    behind = 1 + len(forms)
    if items[0] == "new":
        want_text(items, behind)
    elif len(items) > behind:
        raise BadText(0, behind)
    return items


def want_names(kept, items):
    """Raises Twice for a name that is to be a new one, NoName for another one by which nothing is kept."""
    word = items[0]
    wanted = [item for item, form in zip(items[1:], FORMS[word]) if form == "name"]
    if word in KEEPING:
        if wanted[0] in kept:
            raise Twice(wanted[0])
        wanted = wanted[1:]
    for name in wanted:
        if name not in kept:
            raise NoName(name)


def corners_after(kept, items):
    """The corners that a deed leaves to its name; None if it forgets it."""
    word, name = items[0], items[1]
    if word == "forget":
        return None
    if word == "new":
        return tuple(corners_in(items, 2))
    if word == "word":
        return fence_of(items[2]).corners
    if word == "copy":
        return kept[items[2]]
    return made_by(kept[name], [word] + [int(item) for item in items[2:]])


def keep(kept, name, corners):
    """Keeps corners by a name; forgets the name for None."""
    if corners is None:
        del kept[name]
    else:
        kept[name] = corners


def row_text(numbers):
    """Integers with blanks between."""
    return " ".join([written(number) for number in numbers])


def rows_text(rows):
    """Rows of integers with a slash between two of them; a minus for none."""
    return " / ".join([row_text(row) for row in rows]) if rows else "-"


def told_of_deed(word, name, corners):
    """What a deed answers that leaves these corners to its name."""
    if word == "forget":
        return name
    if word == "begin":
        return row_text(corners[0])
    return written(twice_area(corners) if word in ("out", "in") else len(corners))


def told_of_ask(kept, items):
    """What an ask about a name answers."""
    word, fence = items[0], Fence(kept[items[1]])
    if word == "corners":
        return str(fence)
    if word == "where":
        return where(fence, (int(items[2]), int(items[3])))
    if word == "mouths":
        return rows_text(first_among(fence.corners))
    if word == "lifts":
        return rows_text([(rounds, x, y) for rounds, (x, y) in lifts_of(fence)])
    if word == "most":
        return written(most_bites(fence))
    field = field_of(fence)
    if word == "end":
        return str(Fence(field))
    return "yes" if field == field_of(Fence(kept[items[2]])) else "no"


class Desk:
    """The corners that are kept by names; the deeds that stand, and those that were taken back.

    A deed is kept as its line, its name, and the corners by this name ahead of it and behind it.
    """

    def __init__(self):
        self.kept = {}
        self.deeds = []
        self.gone = []

    def __eq__(self, other):
        return isinstance(other, Desk) and self.deeds == other.deeds and self.gone == other.gone

    def tell(self, line):
        """Does what a line says; returns what it answers."""
        items = items_told(line)
        word = items[0]
        if word == "undo":
            return self.take_back()
        if word == "redo":
            return self.do_again()
        want_names(self.kept, items)
        return self.do(line, items) if word in DEEDS else told_of_ask(self.kept, items)

    def do(self, line, items):
        """Does a deed."""
        word, name = items[0], items[1]
        corners = corners_after(self.kept, items)
        if len(self.deeds) >= MOST_DEEDS:
            raise TooMany("lines", MOST_DEEDS)
        self.deeds.append((line, name, self.kept.get(name), corners))
        self.gone.clear()
        keep(self.kept, name, corners)
        return told_of_deed(word, name, corners)

    def take_back(self):
        """Takes the last deed back that stands."""
        if not self.deeds:
            raise Misfit("undo")
        line, name, ahead, behind = self.deeds.pop()
        self.gone.append((line, name, ahead, behind))
        keep(self.kept, name, ahead)
        return line

    def do_again(self):
        """Does the deed again that was taken back last."""
        if not self.gone:
            raise Misfit("redo")
        line, name, ahead, behind = self.gone.pop()
        self.deeds.append((line, name, ahead, behind))
        keep(self.kept, name, behind)
        return line

    def names(self):
        """All names kept, ascending."""
        return tuple(sorted(list(self.kept.keys())))

    def fence(self, name):
        """The fence of a name."""
        if not isinstance(name, str) or name not in self.kept:
            raise NoName(name)
        return Fence(self.kept[name])

    def lines(self):
        """The lines of all deeds that stand, in their order."""
        return tuple([deed[0] for deed in self.deeds])

    def twin(self):
        """Another desk, equal, that goes on by itself."""
        other = Desk()
        other.kept = dict(self.kept)
        other.deeds = list(self.deeds)
        other.gone = list(self.gone)
        return other

    @staticmethod
    def read(lines):
        """The desk that is told the lines of a list."""
        if not are_strings(lines):
            raise BadFilm("lines")
        desk = Desk()
        for at, line in enumerate(lines):
            tell_at(desk, at, line)
        return desk


def tell_at(desk, at, line):
    """Tells a desk a line; raises BadLine with its number if it raises."""
    try:
        desk.tell(line)
    except BadText as text:
        raise BadLine(at, BadText(text.line, text.item)) from None
    except Twice as twice:
        raise BadLine(at, Twice(twice.value)) from None
    except NoName as none:
        raise BadLine(at, NoName(none.value)) from None
    except BadMouth as mouth:
        raise BadLine(at, BadMouth(mouth.part)) from None
    except BadNumber as number:
        raise BadLine(at, BadNumber(number.part)) from None
    except Misfit as misfit:
        raise BadLine(at, Misfit(misfit.part)) from None
    except TooMany as more:
        raise BadLine(at, TooMany(more.what, more.most)) from None
