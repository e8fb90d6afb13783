"""Charts: fences beside one another, told by names, and whether one gets in another one's way."""

from baysout.checks import is_integer
from baysout.ends import field_of
from baysout.errors import BadFence, BadFilm, BadLine, BadMouth, BadText, Misfit, NoName, TooMany, Twice
from baysout.fences import Fence, corners_in, want_fence
from baysout.films import MOST_TURNINGS, film_out
from baysout.lands import Land, are_lands_apart, land_behind, meeting_numbers, met_behind
from baysout.lifts import most_bites
from baysout.mouths import has_mouth, mouths_of
from baysout.names import is_name
from baysout.papers import Denial, Paper
from baysout.texts import items_of

MOST_CHARTED = 12
MOST_OUTINGS = 1000


class Free(Paper):
    """The fields of all fences of a chart, no two of which meet."""

    def __init__(self, fields):
        super().__init__("free", fields)
        self.fields = self.parts[0]


class Clash(Denial):
    """A course behind which one fence has an outing that is not let, as the other one is in the way."""

    def __init__(self, one, other, course):
        super().__init__("clash", one, other, course)
        self.one, self.other, self.course = self.parts


def are_apart(one, other):
    """Whether the lands of two fences have no point in common."""
    want_fence(one, "one")
    want_fence(other, "other")
    return are_lands_apart(Land(one.corners), Land(other.corners))


def is_pair_of_chart(value):
    """Whether any value is a pair of a name and a Fence."""
    if not isinstance(value, (list, tuple)) or len(value) != 2:
        return False
    return is_name(value[0]) and isinstance(value[1], Fence)


def want_pairs(value):
    """Raises BadFence for any value that is no list of as many pairs as a chart may have."""
    if not isinstance(value, (list, tuple)) or len(value) < 1 or len(value) > MOST_CHARTED:
        raise BadFence("pairs")
    if not all([is_pair_of_chart(pair) for pair in value]):
        raise BadFence("pairs")


def rows_in(items):
    """Pairs of a name and the corners of a fence, be it one or not, as the items of a chart's text tell them."""
    found, begin = {}, 0
    while begin < len(items):
        if not is_name(items[begin]) or items[begin] in found:
            raise BadText(0, begin)
        bars = [at for at in range(begin, len(items)) if items[at] == "|"]
        end = bars[0] if bars else len(items)
        found[items[begin]] = corners_in(items[:end], begin + 1)
        if not bars:
            return list(found.items())
        if len(found) >= MOST_CHARTED:
            raise BadText(0, end)
        begin = end + 1
    raise BadText(0, begin)


class Chart:
    """One to twelve fences, each with a name, each two of them apart."""

    def __init__(self, pairs):
        want_pairs(pairs)
        names = [name for name, _ in pairs]
        for at, name in enumerate(names):
            if name in names[:at]:
                raise Twice(name)
        if meeting_numbers([fence.corners for _, fence in pairs]):
            raise Misfit("pairs")
        self.pairs = tuple([tuple(pair) for pair in pairs])
        self.names = tuple(names)

    def __eq__(self, other):
        return isinstance(other, Chart) and self.pairs == other.pairs

    def __str__(self):
        return " | ".join([f"{name} {str(fence)}" for name, fence in self.pairs])

    @staticmethod
    def read(text):
        """The chart with this text."""
        items = items_of(text)
        rows = rows_in(items)
        try:
            return Chart([(name, Fence(corners)) for name, corners in rows])
        except BadFence:
            raise BadText(0, len(items) - 1) from None
        except Misfit:
            raise BadText(0, len(items) - 1) from None

    def fence(self, name):
        """The fence with a name."""
        if not isinstance(name, str) or name not in self.names:
            raise NoName(name)
        return self.pairs[self.names.index(name)][1]


def want_chart(value):
    """Raises BadFence for any value that is no Chart."""
    if not isinstance(value, Chart):
        raise BadFence("chart")


def outings_of(chart):
    """All outings, ascending."""
    want_chart(chart)
    return tuple(sorted([(name, p, q) for name, fence in chart.pairs for p, q in mouths_of(fence)]))


def lands_of(chart):
    """The Lands of all fences, in order."""
    return [Land(fence.corners) for _, fence in chart.pairs]


def let_of(chart):
    """All outings that are let, ascending."""
    want_chart(chart)
    lands, names = lands_of(chart), chart.names
    return tuple([(name, p, q) for name, p, q in outings_of(chart)
                  if not met_behind(lands, names.index(name), (p, q))])


def is_triple(value):
    """Whether any value is a triple of a string and two integers."""
    if not isinstance(value, (list, tuple)) or len(value) != 3:
        return False
    return isinstance(value[0], str) and is_integer(value[1]) and is_integer(value[2])


def is_course(value):
    """Whether any value is a list of as many such triples as a course may have, or of none."""
    if not isinstance(value, (list, tuple)) or len(value) > MOST_OUTINGS:
        return False
    return all([is_triple(outing) for outing in value])


def turn_out(names, lands, outing):
    """Puts the Land behind an outing in the place of the one that is turned; changes the list of Lands."""
    if not is_triple(outing) or outing[0] not in names:
        raise BadMouth("outing")
    at, mouth = names.index(outing[0]), (outing[1], outing[2])
    if not has_mouth(lands[at].corners, mouth):
        raise BadMouth("outing")
    if met_behind(lands, at, mouth):
        raise Misfit("outing")
    lands[at] = land_behind(lands[at], mouth)


def lands_along(chart, course):
    """The Lands behind a course, in order; raises BadLine for the first outing that can't be done."""
    lands = lands_of(chart)
    for at, outing in enumerate(course):
        try:
            turn_out(chart.names, lands, outing)
        except BadMouth:
            raise BadLine(at, BadMouth("outing")) from None
        except Misfit:
            raise BadLine(at, Misfit("outing")) from None
    return lands


def chart_with(names, lands):
    """The chart of these names and Lands."""
    return Chart([(name, Fence(land.corners)) for name, land in zip(names, lands)])


def put_out(chart, outing):
    """The chart behind an outing."""
    want_chart(chart)
    lands = lands_of(chart)
    turn_out(chart.names, lands, outing)
    return chart_with(chart.names, lands)


def behind(chart, course):
    """The chart behind a course."""
    want_chart(chart)
    if not is_course(course):
        raise BadFilm("course")
    return chart_with(chart.names, lands_along(chart, course))


def fields_of(chart):
    """For each fence, in order, the pair of its name and of the corners of its field."""
    want_chart(chart)
    return tuple([(name, field_of(fence)) for name, fence in chart.pairs])


def meetings_in(chart):
    """The pairs of the numbers of fences whose fields are not apart, ascending."""
    return meeting_numbers([corners for _, corners in fields_of(chart)])


def meetings(chart):
    """The pairs of the names of fences whose fields are not apart, in the order of the chart."""
    want_chart(chart)
    return tuple([(chart.names[k], chart.names[j]) for k, j in meetings_in(chart)])


def want_judged(value):
    """Raises the errors for what is no chart that can be judged."""
    want_chart(value)
    if sum([most_bites(fence) for _, fence in value.pairs]) > MOST_TURNINGS:
        raise TooMany("turnings", MOST_TURNINGS)


def clash_of(chart, numbers):
    """The Clash to which one comes who turns out mouths of two fences whose fields meet, as long as there are any.

    Were all these outings let, the two would come to the lands of their fields, and be apart.
    """
    lands, course = lands_of(chart), []
    outings = [(at, mouth) for at in numbers for mouth in film_out(chart.pairs[at][1])]
    at, mouth = outings[0]
    met = met_behind(lands, at, mouth)
    while not met:
        course.append((chart.names[at], mouth[0], mouth[1]))
        lands[at] = land_behind(lands[at], mouth)
        at, mouth = outings[len(course)]
        met = met_behind(lands, at, mouth)
    return Clash(chart.names[at], chart.names[met[0]], course)


def judged(chart):
    """Whether nothing ever gets in the way: all fields, or a course to where something does, as a paper."""
    want_judged(chart)
    numbers = meetings_in(chart)
    return clash_of(chart, numbers[0]) if numbers else Free(fields_of(chart))
