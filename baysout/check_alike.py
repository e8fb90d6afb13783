"""Whether papers that tell how fences are led to one another are right."""

from baysout.alike import Led, Unlike, want_two
from baysout.ends import end_of
from baysout.errors import BadLine
from baysout.fences import Fence
from baysout.steps import are_steps, corners_behind


def do_lead(one, other, steps):
    """Whether any value is a list of steps that lead from one fence to the other."""
    if not are_steps(steps):
        return False
    try:
        last = corners_behind(one.corners, steps)
    except BadLine:
        return False
    return last == other.corners


def is_field(value, fence):
    """Whether any value is the field of a fence, as a Fence."""
    return isinstance(value, Fence) and value == end_of(fence)


def shows_led(one, other, value):
    """Whether any value is a right Led, or a right Unlike."""
    want_two(one, other)
    if isinstance(value, Led):
        return do_lead(one, other, value.steps)
    if not isinstance(value, Unlike) or not is_field(value.one, one) or not is_field(value.other, other):
        return False
    return value.one != value.other
