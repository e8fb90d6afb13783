"""Whether papers that tell if anything in a chart ever gets in the way are right."""

from baysout.charts import Clash, Free, fields_of, is_course, lands_along, meetings_in, want_judged
from baysout.check_ends import are_same_points
from baysout.errors import BadLine
from baysout.fences import Fence
from baysout.lands import met_behind
from baysout.mouths import mouths_of


def is_field_named(value, pair):
    """Whether any value is a pair of a name and the corners of a field."""
    if not isinstance(value, (list, tuple)) or len(value) != 2:
        return False
    return isinstance(value[0], str) and value[0] == pair[0] and are_same_points(value[1], pair[1])


def are_fields(value, fields):
    """Whether any value is a list of just these pairs of a name and the corners of a field."""
    if not isinstance(value, (list, tuple)) or len(value) != len(fields):
        return False
    return all([is_field_named(one, pair) for one, pair in zip(value, fields)])


def is_met(lands, one, other):
    """Whether some mouth of fence number one, turned out, makes a fence that is not apart from number other."""
    fence = Fence(lands[one].corners)
    return any([other in met_behind(lands, one, mouth) for mouth in mouths_of(fence)])


def does_clash(chart, clash):
    """Whether a Clash is right."""
    one, other = clash.one, clash.other
    if not isinstance(one, str) or not isinstance(other, str) or not is_course(clash.course):
        return False
    if one not in chart.names or other not in chart.names:
        return False
    try:
        lands = lands_along(chart, clash.course)
    except BadLine:
        return False
    return is_met(lands, chart.names.index(one), chart.names.index(other))


def shows_judged(chart, value):
    """Whether any value is a right Free, or a right Clash."""
    want_judged(chart)
    if isinstance(value, Free):
        return not meetings_in(chart) and are_fields(value.fields, fields_of(chart))
    return isinstance(value, Clash) and does_clash(chart, value)
