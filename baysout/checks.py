"""What an integer is, and what a point is: told of any values."""


def is_integer(value):
    """Whether a value is an integer; True and False are none."""
    return isinstance(value, int) and not isinstance(value, bool)


def is_within(value, least, most):
    """Whether a value is an integer from least to most, either of them None for no bound."""
    if not is_integer(value):
        return False
    return (least is None or value >= least) and (most is None or value <= most)


def is_point(value):
    """Whether a value is a pair of integers."""
    if not isinstance(value, (list, tuple)) or len(value) != 2:
        return False
    return is_integer(value[0]) and is_integer(value[1])
