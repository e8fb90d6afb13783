"""Names by which fences are kept, at a desk and in a chart."""

MOST_SIGNS = 12

DIGITS = "0123456789"
SIGNS = "abcdefghijklmnopqrstuvwxyz0123456789"


def is_name(value):
    """Whether any value is a name."""
    if not isinstance(value, str) or len(value) < 1 or len(value) > MOST_SIGNS:
        return False
    return value[0] not in DIGITS and all([sign in SIGNS for sign in value])
