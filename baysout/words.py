"""Words: walks told in letters, and the fences that are walked along."""

from baysout.errors import BadWord, Misfit, TooMany
from baysout.fences import Fence, want_fence
from baysout.outlines import are_corners

MOST_LETTERS = 2000

# East, north, west, south: each a quarter left of the one ahead, and the letters by which it is faced at first.
WAYS = ((1, 0), (0, 1), (-1, 0), (0, -1))
TURNS = ("", "l", "ll", "r")


def is_word(value):
    """Whether any value is a word."""
    if not isinstance(value, str) or len(value) < 1 or len(value) > MOST_LETTERS:
        return False
    return all([letter in ("f", "l", "r") for letter in value])


def walked(word):
    """The corners of a word, and the place at which the walker stands at the end."""
    corners, spot, faced, came = [(0, 0)], (0, 0), 0, None
    for letter in word:
        if letter == "l":
            faced = (faced + 1) % 4
        elif letter == "r":
            faced = (faced - 1) % 4
        else:
            if came is not None and came != faced:
                corners.append(spot)
            came = faced
            spot = (spot[0] + WAYS[faced][0], spot[1] + WAYS[faced][1])
    return corners, spot


def fence_of(word):
    """The fence of a word."""
    if not is_word(word):
        raise BadWord("word")
    corners, last = walked(word)
    if last != (0, 0) or not are_corners(corners):
        raise Misfit("word")
    return Fence(corners)


def way_of(side):
    """The number of the way that a side goes; None if it goes none of the four."""
    x, y = side
    if x != 0 and y != 0:
        return None
    if y == 0:
        return 0 if x > 0 else 2
    return 1 if y > 0 else 3


def turn_between(way, after):
    """The letter that turns the walker from one way to the next one, if any."""
    if way == after:
        return ""
    return "l" if (way + 1) % 4 == after else "r"


def word_of(fence):
    """The word of a fence whose sides go east, north, west and south."""
    want_fence(fence, "fence")
    ways = [way_of(side) for side in fence.sides]
    if None in ways:
        raise Misfit("fence")
    lengths = [abs(x) + abs(y) for x, y in fence.sides]
    turns = [turn_between(way, after) for way, after in zip(ways, ways[1:])] + [""]
    begin = TURNS[ways[0]]
    # Sides may be too long for a string of so many letters.
    if len(begin) + sum(lengths) + sum([len(turn) for turn in turns]) > MOST_LETTERS:
        raise TooMany("letters", MOST_LETTERS)
    return begin + "".join(["f" * length + turn for length, turn in zip(lengths, turns)])
