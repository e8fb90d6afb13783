"""Steps from one fence to another: mouths turned out, headlands turned in, straight corners, other begins."""

from baysout.changed import corners_from, corners_with, corners_without
from baysout.checks import is_integer
from baysout.errors import BadFilm, BadLine, BadMouth, BadNumber, Misfit, TooMany
from baysout.fences import Fence, want_fence
from baysout.headlands import corners_turned_in
from baysout.turnings import corners_out

MOST_STEPS = 4000

# How many integers stand behind each word.
NUMBERS_BEHIND = {"out": 2, "in": 2, "put": 3, "drop": 1, "begin": 1}


def is_step(value):
    """Whether any value is a step."""
    if not isinstance(value, (list, tuple)) or len(value) == 0:
        return False
    word = value[0]
    if not isinstance(word, str) or word not in NUMBERS_BEHIND:
        return False
    return len(value) == 1 + NUMBERS_BEHIND[word] and all([is_integer(number) for number in value[1:]])


def are_steps(value):
    """Whether any value is a list of as many steps as may be, or of none."""
    if not isinstance(value, (list, tuple)) or len(value) > MOST_STEPS:
        return False
    return all([is_step(step) for step in value])


def made_by(corners, step):
    """The corners that a step makes of others; raises what the function of its word raises."""
    word, at = step[0], step[1]
    if word == "out":
        return corners_out(corners, step[1:])
    if word == "in":
        return corners_turned_in(corners, step[1:])
    if word == "put":
        return corners_with(corners, at, step[2:])
    if word == "drop":
        return corners_without(corners, at)
    return corners_from(corners, at)


def behind_line(corners, line, step):
    """The corners that a step makes of others; raises BadLine with its number if it can't be done."""
    try:
        return made_by(corners, step)
    except BadMouth as mouth:
        raise BadLine(line, BadMouth(mouth.part)) from None
    except BadNumber as number:
        raise BadLine(line, BadNumber(number.part)) from None
    except Misfit as misfit:
        raise BadLine(line, Misfit(misfit.part)) from None
    except TooMany as more:
        raise BadLine(line, TooMany(more.what, more.most)) from None


def corners_behind(corners, steps):
    """The corners behind all steps."""
    for line, step in enumerate(steps):
        corners = behind_line(corners, line, step)
    return corners


def opposite_of(corners, step):
    """What is taken back of a step that can be done: the steps that lead back to these corners."""
    word, at, many = step[0], step[1], len(corners)
    if word == "out":
        return [("in", at, step[2])]
    if word == "in":
        return [("out", at, step[2])]
    if word == "put":
        return [("drop", at + 1)]
    if word == "begin":
        return [("begin", (many - at) % many)]
    x, y = corners[at]
    if at > 0:
        return [("put", at - 1, x, y)]
    return [("put", many - 2, x, y), ("begin", many - 1)]


def want_steps(value):
    """Raises BadFilm for any value that is no list of steps."""
    if not are_steps(value):
        raise BadFilm("steps")


def done(fence, steps):
    """The fence to which steps lead."""
    want_fence(fence, "fence")
    want_steps(steps)
    return Fence(corners_behind(fence.corners, steps))


def taken_back(fence, steps):
    """The steps that lead back from what these steps make of the fence."""
    want_fence(fence, "fence")
    want_steps(steps)
    corners, pieces = fence.corners, []
    for line, step in enumerate(steps):
        behind = behind_line(corners, line, step)
        pieces.append(opposite_of(corners, step))
        corners = behind
    return tuple([back for piece in pieces[::-1] for back in piece])
