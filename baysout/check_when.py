"""Whether papers that tell when a point comes to land are right."""

from baysout.when import Already, Late, Never, Soon, latest_stages, plays_with, soonest_stages


def shows_soon(fence, point, value):
    """Whether any value is a right Soon, or a right Never."""
    plays, landed = plays_with(fence, point)
    found = soonest_stages(plays, landed)
    if isinstance(value, Never):
        return not found
    if not isinstance(value, Soon) or plays.stage_behind(value.film) not in found:
        return False
    return len(value.film) == plays.turnings_made()[0][found[0]]


def shows_late(fence, point, value):
    """Whether any value is a right Late, or a right Already."""
    plays, landed = plays_with(fence, point)
    found = latest_stages(plays, landed)
    if isinstance(value, Already):
        return not found
    if not isinstance(value, Late) or plays.stage_behind(value.film) not in found:
        return False
    return len(value.film) == plays.turnings_made()[1][found[0]]
