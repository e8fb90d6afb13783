"""Whether papers that tell how many turnings there are, and who wins, are right."""

from baysout.checks import is_point
from baysout.counts import First, Least, Most, Second, plays_of


def shows_least(fence, value):
    """Whether any value is a right Least."""
    plays = plays_of(fence)
    if not isinstance(value, Least) or not plays.ends_behind(value.film):
        return False
    return len(value.film) == plays.turnings_left()[0][0]


def shows_most(fence, value):
    """Whether any value is a right Most."""
    plays = plays_of(fence)
    if not isinstance(value, Most) or not plays.ends_behind(value.film):
        return False
    return len(value.film) == plays.turnings_left()[1][0]


def shows_winner(fence, value):
    """Whether any value is a right First, or a right Second."""
    mouths = plays_of(fence).winning_mouths()
    if isinstance(value, Second):
        return not mouths
    if not isinstance(value, First) or not is_point(value.mouth):
        return False
    return tuple(value.mouth) in mouths
