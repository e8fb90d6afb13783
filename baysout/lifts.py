"""Lifted directions: where each side points, and how often one has turned round until there."""

from math import gcd

from baysout.checks import is_integer, is_point
from baysout.errors import BadPoint
from baysout.fences import want_fence


def cross_between(one, other):
    """Above 0 if one turns left from one direction to the other, below 0 if right."""
    return one[0] * other[1] - one[1] * other[0]


def shortened(x, y):
    """The pair by the greatest integer that divides both."""
    most = gcd(x, y)
    return (x // most, y // most)


def direction_of(side):
    """The direction of a side."""
    if not is_point(side) or tuple(side) == (0, 0):
        raise BadPoint("side")
    return shortened(side[0], side[1])


def is_direction(value):
    """Whether any value is a direction."""
    return is_point(value) and gcd(value[0], value[1]) == 1


def is_below(direction):
    """Whether a direction belongs to the second half of the order: west, and those below."""
    return direction[1] < 0 or (direction[1] == 0 and direction[0] < 0)


def is_ahead(one, other):
    """Whether one direction is ahead of the other one in the order from east on to the left."""
    if is_below(one) != is_below(other):
        return is_below(other)
    return cross_between(one, other) > 0


def place_for(row, direction):
    """How many directions of a row in order are ahead of a direction."""
    low, high = 0, len(row)
    while low < high:
        middle = (low + high) // 2
        if is_ahead(row[middle], direction):
            low = middle + 1
        else:
            high = middle
    return low


def directions_among(sides):
    """The directions of some sides, in their order."""
    row = []
    for direction in sorted(set([shortened(x, y) for x, y in sides])):
        row.insert(place_for(row, direction), direction)
    return tuple(row)


def directions_of(fence):
    """The directions of the sides, in their order."""
    want_fence(fence, "fence")
    return directions_among(fence.sides)


def rounds_between(one, other):
    """How many rounds more there are behind a turn from one direction to the other."""
    turn = cross_between(one, other)
    if turn > 0 and is_ahead(other, one):
        return 1
    if turn < 0 and is_ahead(one, other):
        return -1
    return 0


def lifts_along(sides):
    """The lifted directions of sides that follow one another, the first one with rounds 0."""
    directions = [shortened(x, y) for x, y in sides]
    lifts = [(0, directions[0])]
    for one, other in zip(directions, directions[1:]):
        rounds = lifts[-1][0] + rounds_between(one, other)
        lifts.append((rounds, other))
    return tuple(lifts)


def ranks_along(sides):
    """The ranks of all sides of a fence, side 0 first."""
    order = directions_among(sides)
    numbers = {direction: at for at, direction in enumerate(order)}
    return tuple([len(order) * rounds + numbers[direction] for rounds, direction in lifts_along(sides)])


def fro_along(sides):
    """By how much a fence of these sides turns to and fro, T."""
    ranks = ranks_along(sides)
    again = ranks[0] + len(directions_among(sides))
    following = ranks[1:] + (again,)
    return sum([abs(other - one) for one, other in zip(ranks, following)])


def lifts_of(fence):
    """The lifted directions of all sides, side 0 first."""
    want_fence(fence, "fence")
    return lifts_along(fence.sides)


def ranks_of(fence):
    """The ranks of all sides, side 0 first."""
    want_fence(fence, "fence")
    return ranks_along(fence.sides)


def to_and_fro(fence):
    """By how much the fence turns to and fro, T."""
    want_fence(fence, "fence")
    return fro_along(fence.sides)


def most_bites(fence):
    """Half of T - s: how often the fence can come to turn to and fro by 2 less."""
    return (to_and_fro(fence) - len(directions_of(fence))) // 2


def is_lifted(value):
    """Whether any value is a pair of an integer and a direction."""
    if not isinstance(value, (list, tuple)) or len(value) != 2:
        return False
    return is_integer(value[0]) and is_direction(value[1])


def lifted_less(one, other):
    """Whether a lifted direction is less than another one."""
    if not is_lifted(one):
        raise BadPoint("one")
    if not is_lifted(other):
        raise BadPoint("other")
    if one[0] != other[0]:
        return one[0] < other[0]
    return is_ahead(one[1], other[1])
