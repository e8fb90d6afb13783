"""Texts: strings of items with single blanks between."""

from baysout.errors import BadText

MOST_DIGITS = 140


def written(number):
    """The digits of an integer, of any size."""
    # Python's own str refuses integers of more than 4,300 digits.
    great = (10 ** 64) ** 14
    pieces = []
    rest = abs(number)
    while rest >= great:
        pieces.append(str(rest % great).zfill(64 * 14))
        rest = rest // great
    sign = "-" if number < 0 else ""
    return sign + str(rest) + "".join(pieces[::-1])


def items_of(text):
    """The items of a text; an empty one is an item, too."""
    if not isinstance(text, str):
        raise BadText(0, 0)
    return text.split(" ")


def is_number(item):
    """Whether an item is an integer as a text writes it."""
    digits = item[1:] if item.startswith("-") else item
    # Python takes other digits than 0 to 9 for digits, too.
    if not digits.isascii() or not digits.isdigit() or len(digits) > MOST_DIGITS:
        return False
    return item == "0" or not digits.startswith("0")


def are_strings(value):
    """Whether any value is a list of strings, perhaps of none."""
    return isinstance(value, (list, tuple)) and all([isinstance(line, str) for line in value])
