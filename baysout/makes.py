"""Fences of a form that is told by a number or two: combs, spirals, stairs, zigzags."""

from baysout.fences import Fence
from baysout.wants import want_number
from baysout.words import WAYS

MOST_TEETH = 100
MOST_DEEP = 1000000
# By one more there would be more corners than a fence has.
MOST_PARTS = 199

# Of a unit square the corner ahead at the right hand, where one goes east, north, west, south.
RIGHT_AHEAD = ((1, 0), (1, 1), (0, 1), (0, 0))


def comb(teeth, deep):
    """The comb of so many teeth, each so much higher than what is between them."""
    want_number(teeth, "teeth", 1, MOST_TEETH)
    want_number(deep, "deep", 1, MOST_DEEP)
    row = [(0, 0), (2 * teeth - 1, 0)]
    for left in range(2 * teeth - 2, -1, -2):
        row.extend([(left + 1, deep + 1), (left, deep + 1)])
        if left > 0:
            row.extend([(left, 1), (left - 1, 1)])
    return Fence(row)


def squares_of(arms):
    """The squares, by their lower left corners, at which the arms of a spiral end."""
    squares, x, y = [], 0, 0
    for arm in range(arms):
        along, up = WAYS[arm % 4]
        length = 2 * (arm // 2 + 1)
        x, y = x + along * length, y + up * length
        squares.append((x, y))
    return squares


def corner_of(square, way):
    """The corner of a square ahead at the right hand of who goes a way, the ways being counted round."""
    more_x, more_y = RIGHT_AHEAD[way % 4]
    return (square[0] + more_x, square[1] + more_y)


def spiral(arms):
    """The spiral of so many arms, a way one wide that turns left again and again."""
    want_number(arms, "arms", 1, MOST_PARTS)
    squares = squares_of(arms)
    outer = [corner_of(square, arm) for arm, square in enumerate(squares)]
    # At the left hand one goes round the corner that is behind; but behind the last arm straight across its end.
    inner = [corner_of(square, arm + 2) for arm, square in enumerate(squares[:-1])]
    inner.append(corner_of(squares[-1], arms))
    return Fence([(0, 0)] + outer + inner[::-1] + [(0, 1)])


def stairs(steps):
    """The stairs of so many steps, up to the left."""
    want_number(steps, "steps", 1, MOST_PARTS)
    row = [(0, 0), (steps, 0)]
    for step in range(1, steps + 1):
        row.extend([(steps - step + 1, step), (steps - step, step)])
    return Fence(row)


def zigzag(points):
    """The zigzag of so many points."""
    want_number(points, "points", 1, MOST_PARTS)
    row = [(0, 0), (2 * points, 0)]
    for x in range(2 * points - 1, 0, -1):
        row.append((x, 1 + x % 2))
    return Fence(row)
