"""What raises the errors for arguments that are no points, and no numbers within bounds."""

from baysout.checks import is_point, is_within
from baysout.errors import BadNumber, BadPoint


def want_point(value, part):
    """Raises BadPoint with the parameter's name for any value that is no point."""
    if not is_point(value):
        raise BadPoint(part)


def want_number(value, part, least, most):
    """Raises BadNumber with the parameter's name for what is no integer from least to most."""
    if not is_within(value, least, most):
        raise BadNumber(part)
