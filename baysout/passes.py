"""Passes: how often each side of a fence passes each other one."""

from baysout.checks import is_integer
from baysout.errors import BadNumber
from baysout.fences import want_fence
from baysout.lifts import directions_of, ranks_of
from baysout.outlines import LEAST_CORNERS, MOST_CORNERS
from baysout.papers import Denial, Paper
from baysout.tracks import places_behind


class Order(Paper):
    """The places whose table it is."""

    def __init__(self, places):
        super().__init__("order", places)
        self.places = self.parts[0]


class Torn(Denial):
    """Two sides whose entry is not that of the places that the rows tell, or whose places leave one remainder."""

    def __init__(self, one, other):
        super().__init__("torn", one, other)
        self.one, self.other = self.parts


def entry_of(places, i, j):
    """How often side j has passed side i, if sides came to these places."""
    many = len(places)
    return (j - i) // many - (places[j] - places[i]) // many


def table_of(places):
    """The table of places."""
    numbers = list(range(len(places)))
    return tuple([tuple([entry_of(places, i, j) for j in numbers]) for i in numbers])


def passed(fence, film):
    """The table of a film."""
    return table_of(places_behind(fence, film))


def passes_of(fence):
    """The table of each film that ends, with None for sides of one direction."""
    want_fence(fence, "fence")
    many, more, ranks = fence.many, len(directions_of(fence)), ranks_of(fence)
    rows = []
    for i, rank in enumerate(ranks):
        rows.append(tuple([None if (other - rank) % more == 0 else (j - i) // many - (other - rank) // more
                           for j, other in enumerate(ranks)]))
    return tuple(rows)


def are_rows(value):
    """Whether any value is a list of as many rows as a fence may have corners, each of as many integers."""
    if not isinstance(value, (list, tuple)) or len(value) < LEAST_CORNERS or len(value) > MOST_CORNERS:
        return False
    for row in value:
        if not isinstance(row, (list, tuple)) or len(row) != len(value):
            return False
        if not all([is_integer(entry) for entry in row]):
            return False
    return True


def want_table(value):
    """Raises BadNumber for any value that is no table, be it that of some places or not."""
    if not are_rows(value):
        raise BadNumber("table")
    for i, row in enumerate(value):
        # Opposite to itself only 0 is.
        if not all([row[j] == -value[j][i] for j in range(i + 1)]):
            raise BadNumber("table")


def places_told(table):
    """The places that the rows of a table tell, be they some or not."""
    return [i + sum(row) for i, row in enumerate(table)]


def is_torn(table, places, i, j):
    """Whether the entry of two sides is not that of the places, or the places leave the same remainder."""
    return table[i][j] != entry_of(places, i, j) or (places[i] - places[j]) % len(places) == 0


def first_torn(table, places):
    """The first pair of sides that is torn, one less than the other; an empty one if none is."""
    for i in range(len(table)):
        for j in range(i + 1, len(table)):
            if is_torn(table, places, i, j):
                return (i, j)
    return ()


def order_of(table):
    """The places whose table it is, or two sides that show that there are none, as a paper."""
    want_table(table)
    places = places_told(table)
    torn = first_torn(table, places)
    return Torn(torn[0], torn[1]) if torn else Order(places)
