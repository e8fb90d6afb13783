import random
import unittest

from baysout.changed import begun, moved
from baysout.charts import Chart, Clash, Free, fields_of, judged, let_of, outings_of, put_out
from baysout.check_charts import shows_judged
from baysout.counts import Second
from baysout.ends import Ended, end_of
from baysout.errors import BadFence, TooMany
from baysout.fences import Fence
from baysout.makes import comb, spiral, stairs, zigzag
from baysout.papers import Denial, Paper
from tests.makers import GREAT, NO_FENCES, NOTCH, SQUARE, Case, slanted, spiral_corners
from tests.slow_charts import BOX, COVE, clashes_behind, drawn_charts, fields_that_meet, outings_and_met
from tests.test_charts import NO_CHARTS

NO_COURSES = (None, True, 0, "", "a 2 4", {}, ("a", 2, 4), ["a", 2, 4], [None], ["a24"], [("a", 2)], [("a", 2, 4, 4)],
              [("a", 2, True)], [("a", 2.0, 4)], [(1, 2, 4)], [("a", (2, 4))], [("a", "2", "4")])


def near_chart():
    return Chart([("dent", Fence(NOTCH)), ("box", moved(Fence(BOX), (1, 5)))])


def courses_of(chart, numbers, many):
    """Courses of several lengths, drawn at random."""
    found = [()]
    for _ in range(many):
        course, there = (), chart
        for _ in range(numbers.randint(0, 4)):
            if let_of(there):
                outing = numbers.choice(let_of(there))
                course, there = course + (outing,), put_out(there, outing)
        found.append(course)
    return found


class Free_(Case):
    def free_charts(self):
        return [chart for chart in drawn_charts(50) if not fields_that_meet(chart)]

    def test_right_ones(self):
        for chart in self.free_charts():
            self.assertIs(shows_judged(chart, judged(chart)), True)
            rows = [[name, [list(corner) for corner in end_of(fence).corners]] for name, fence in chart.pairs]
            self.assertIs(shows_judged(value=Free(rows), chart=chart), True)

    def test_bent_ones(self):
        numbers = random.Random(71)
        for chart in self.free_charts():
            rows = fields_of(chart)
            bent = [rows[:-1], rows[1:], rows + rows[:1], (), None, True, rows[0], str(rows), dict(rows)]
            if len(rows) > 1:
                bent += [rows[::-1], rows[1:] + rows[:1]]
                bent.append(tuple(zip([name for name, _ in rows[1:] + rows[:1]], [row for _, row in rows])))
            at = numbers.randrange(len(rows))
            name, corners = rows[at]
            (x, y), *more = corners
            for other in ((name, corners[1:] + corners[:1]), (name, corners[:-1]), (name, corners + corners[:1]),
                          (name, corners[::-1]), (name, ((x, y + 1), *more)), (name, ((float(x), y), *more)),
                          (name, ((x, y, 0), *more)), (name + "x", corners), ("", corners), (None, corners), (name,),
                          (name, corners, corners), (corners, name), (name, None), (name, Fence(corners)), name, None,
                          (name, chart.fence(name).corners if chart.fence(name).corners != corners else corners[::-1]),
                          ([name], corners), (name, str(corners)), (name.encode(), corners)):
                bent.append(rows[:at] + (other,) + rows[at + 1:])
            for value in bent:
                self.assertIs(shows_judged(chart, Free(value)), False)

    def test_truths_are_no_numbers(self):
        chart = Chart([("a", Fence(((0, 0), (1, 0), (1, 1), (0, 1))))])
        self.assertIs(shows_judged(chart, Free([("a", [(0, 0), (1, 0), (1, 1), (0, 1)])])), True)
        self.assertIs(shows_judged(chart, Free([("a", [(0, 0), (True, 0), (1, 1), (0, 1)])])), False)
        self.assertIs(shows_judged(chart, Free([("a", [(False, 0), (1, 0), (1, 1), (0, 1)])])), False)
        self.assertIs(shows_judged(chart, Free([("a", [(0.0, 0), (1, 0), (1, 1), (0, 1)])])), False)

    def test_where_fields_meet(self):
        chart = near_chart()
        self.assertIs(shows_judged(chart, Free(fields_of(chart))), False)


class Clashes(Case):
    def test_against_all_sides(self):
        numbers, found = random.Random(72), {True: 0, False: 0}
        for chart in drawn_charts(60):
            names = chart.names + ("none",)
            for course in courses_of(chart, numbers, 3):
                pairs = clashes_behind(chart, course)
                for one in names:
                    for other in names:
                        right = (one, other) in pairs
                        self.assertIs(shows_judged(chart, Clash(one, other, course)), right)
                        found[right] += 1
            if fields_that_meet(chart):
                self.assertIs(shows_judged(chart, judged(chart)), True)
        self.assertGreater(found[True], 30)

    def test_bent_courses(self):
        cove = Fence(COVE)
        chart = Chart([("a", moved(Fence(NOTCH), (20, 0))), ("b", cove), ("c", moved(Fence(BOX), (4, 12)))])
        right = ((("a", 2, 4),), ())
        for course in right:
            self.assertIs(shows_judged(chart, Clash("b", "c", course)), True)
            self.assertIs(shows_judged(chart, Clash("b", "c", [list(outing) for outing in course])), True)
            self.assertIs(shows_judged(chart, Clash("c", "b", course)), False)
            self.assertIs(shows_judged(chart, Clash("b", "a", course)), False)
            self.assertIs(shows_judged(chart, Clash("b", "b", course)), False)
        for course in (
            [("b", 3, 6)], [("a", 2, 4), ("b", 3, 6)], [("a", 2, 4)] * 2, [("a", 4, 2)], [("c", 0, 1)], [("d", 2, 4)],
            [("a", 2, 4), ("a", 0, 1)], [("a", 2, GREAT)], [("a", 2, -1)], [("a", 2, 4)] * 1000, [("a", 2, 4)] * 1001,
            [("a", 2, 4), None],
        ):
            self.assertIs(shows_judged(chart, Clash("b", "c", course)), False)
        for course in NO_COURSES:
            self.assertIs(shows_judged(chart, Clash("b", "c", course)), False)

    def test_bent_names(self):
        chart = near_chart()
        self.assertIs(shows_judged(chart, Clash("dent", "box", [])), True)
        for one, other in (("dent", "dent"), ("box", "dent"), ("box", "box"), ("dent", "none"), ("none", "box"), ("", "box"),
                           (None, "box"), ("dent", None), (0, 1), (("dent",), "box"), ("dent", ["box"]), ({}, {}),
                           (b"dent", b"box"), (True, False), (Fence(NOTCH), Fence(BOX)), ("Dent", "box"), ("dent ", "box")):
            self.assertIs(shows_judged(chart, Clash(one, other, [])), False)

    def test_where_nothing_gets_in_the_way(self):
        numbers = random.Random(73)
        for chart in drawn_charts(40):
            if not fields_that_meet(chart):
                for course in courses_of(chart, numbers, 2):
                    for one in chart.names:
                        for other in chart.names:
                            self.assertIs(shows_judged(chart, Clash(one, other, course)), False)


class Others(Case):
    def test_other_values(self):
        for chart in (near_chart(), Chart([("a", Fence(NOTCH))])):
            told = judged(chart)
            for value in (Paper(told.word, *told.parts), Denial(told.word, *told.parts), told.parts, told.word, Free, Clash,
                          Ended(NOTCH, []), Second(), chart, [told], (told,), "free", "clash") + NO_FENCES:
                self.assertIs(shows_judged(chart, value), False)
            self.assertIs(shows_judged(chart, told), True)

    def test_charts_wanted(self):
        for value in NO_CHARTS:
            for told in (None, Free([]), Clash("a", "b", [])):
                self.raises(BadFence, ("chart",), shows_judged, value, told)

    def test_too_many_whatever_the_value_is(self):
        five = [(f"n{at}", moved(zigzag(199), (0, 1000 * at))) for at in range(5)]
        full = Chart(five + [("b", moved(zigzag(11), (0, 5000)))])
        self.assertIs(shows_judged(full, Free(fields_of(full))), True)
        more = Chart(five + [("b", moved(zigzag(12), (0, 5000)))])
        for value in (None, Free(fields_of(more)), Free([]), Clash("n0", "b", []), 5):
            self.raises(TooMany, ("turnings", 1000), shows_judged, more, value)

    def test_begun_elsewhere(self):
        # The field begins at its least corner, wherever the fence does.
        chart = Chart([("a", begun(Fence(SQUARE), 2))])
        self.assertIs(shows_judged(chart, Free([("a", SQUARE)])), True)
        self.assertIs(shows_judged(chart, Free([("a", chart.fence("a").corners)])), False)

    def test_short_time(self):
        for fence, by in ((spiral(9), (12, 0)), (stairs(9), (9, 2)), (comb(5, 9), (0, 30)), (comb(5, 10 ** 5), (30, 0)),
                          (Fence(slanted(spiral_corners(9), 10 ** 4)), (10 ** 6, 0))):
            chart = Chart([(f"n{at}", moved(fence, (by[0] * at, by[1] * at))) for at in range(6)])
            self.assertIs(self.is_short(shows_judged, chart, judged(chart)), True)
            for outing in outings_of(chart)[:1]:
                self.is_short(shows_judged, chart, Clash("n0", "n1", [outing]))
            self.is_short(shows_judged, chart, Clash("n0", "n1", []))

    def test_oracle_knows_outings(self):
        self.assertEqual(outings_and_met(near_chart()), {("dent", 2, 4): ["box"]})


if __name__ == "__main__":
    unittest.main()
