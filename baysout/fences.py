"""Fences: closed rows of straight sides that do not cross themselves, the land at the left hand."""

from math import gcd

from baysout.errors import BadFence, BadText
from baysout.outlines import LEAST_CORNERS, MOST_CORNERS, are_corners, place_in, sides_of, twice_area
from baysout.texts import is_number, items_of, written
from baysout.wants import want_point


def can_stand(at, item):
    """Whether an item is of the form that its place in the text of a fence wants."""
    if at >= 3 * MOST_CORNERS - 1:
        return False
    return item == "/" if at % 3 == 2 else is_number(item)


def corners_in(items, begin):
    """The corners that the items from a number on tell as a fence's text, be they those of a fence or not."""
    for at in range(begin, len(items)):
        if not can_stand(at - begin, items[at]):
            raise BadText(0, at)
    many = len(items) - begin
    if many % 3 != 2 or many < 3 * LEAST_CORNERS - 1:
        raise BadText(0, len(items))
    return [(int(items[at]), int(items[at + 1])) for at in range(begin, len(items), 3)]


class Fence:
    """A fence, told by its corners."""

    def __init__(self, corners):
        if not are_corners(corners):
            raise BadFence("corners")
        self.corners = tuple([tuple(point) for point in corners])
        self.many = len(self.corners)
        self.sides = sides_of(self.corners)
        self.area2 = twice_area(self.corners)

    def __eq__(self, other):
        return isinstance(other, Fence) and self.corners == other.corners

    def __str__(self):
        return " / ".join([f"{written(x)} {written(y)}" for x, y in self.corners])

    @staticmethod
    def read(text):
        """The fence with this text."""
        return fence_in(items_of(text), 0)


def fence_in(items, begin):
    """The fence whose text the items from a number on are."""
    corners = corners_in(items, begin)
    try:
        return Fence(corners)
    except BadFence:
        raise BadText(0, len(items) - 1) from None


def want_fence(value, part):
    """Raises BadFence with the parameter's name for any value that is no Fence."""
    if not isinstance(value, Fence):
        raise BadFence(part)


def where(fence, point):
    """Where a point is: "within", "rim" or "off"."""
    want_fence(fence, "fence")
    want_point(point, "point")
    return place_in(fence.corners, tuple(point))


def points_of(fence):
    """The pair of how many points are within the fence, and on its rim."""
    want_fence(fence, "fence")
    rim = sum([gcd(x, y) for x, y in fence.sides])
    return ((fence.area2 - rim + 2) // 2, rim)
