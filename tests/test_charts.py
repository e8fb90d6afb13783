import random
import unittest

from baysout.changed import begun, grown, mirrored, moved, turned
from baysout.charts import (
    Chart, Clash, Free, are_apart, behind, fields_of, judged, let_of, meetings, outings_of, put_out,
)
from baysout.counts import at_most
from baysout.ends import end_of
from baysout.errors import BadFence, BadFilm, BadMouth, BadText, Misfit, NoName, TooMany, Twice
from baysout.fences import Fence
from baysout.films import film_out
from baysout.hulls import is_convex
from baysout.makes import comb, spiral, stairs, zigzag
from baysout.papers import Denial, Paper
from baysout.turnings import turned_out
from tests.makers import (
    GREAT, NO_FENCES, NOTCH, SQUARE, TUB, Case, comb_corners, fences_of_all_kinds, slanted, spiral_corners,
)
from tests.slow_charts import (
    BOX, COVE, apart, behind_outing, drawn_charts, fields_that_meet, is_anything_not_let, is_clash, outings_and_met,
)

NO_NAMES = (None, True, 0, 1.0, "", "A", "0a", "a b", "abcdefghijklm", "a_", b"a", ("a",), ["a"], {}, object(), "a\n")
NO_CHARTS = NO_FENCES + ("a 0 0 / 1 0 / 0 1", (("a", Fence(SQUARE)),), Fence(SQUARE), Chart)
NEEDLE = ((0, 0), (1, 0), (0, 1))


def in_a_row(fences, step=100):
    """A chart of fences side by side, so much apart."""
    return Chart([(f"n{at}", moved(fence, (step * at, 0))) for at, fence in enumerate(fences)])


class Apart(Case):
    def both(self, one, other, told):
        self.assertIs(are_apart(one, other), told)
        self.assertIs(are_apart(one=other, other=one), told)

    def test_by_hand(self):
        square, box, cove = Fence(SQUARE), Fence(BOX), Fence(COVE)
        for fence, by, told in (
            (square, (5, 0), True), (square, (4, 0), False), (square, (4, 4), False), (square, (5, 5), True),
            (square, (-2, -2), False), (square, (-3, 0), True), (square, (1, 1), False), (square, (4, 1), False),
            (square, (2, 4), False), (square, (GREAT, 0), True), (cove, (4, 5), True), (cove, (4, 3), False),
            (cove, (3, 5), False), (cove, (5, 7), False), (cove, (4, 8), True), (cove, (4, 30), True), (cove, (0, 0), False),
            (cove, (7, 9), False), (cove, (1, 1), False), (cove, (7, 6), False),
        ):
            self.both(fence, moved(box, by), told)
        self.both(square, square, False)
        self.both(square, begun(square, 2), False)
        self.both(square, moved(grown(square, 3), (-4, -4)), False)
        # Boxes that overlap, though the lands are far from one another.
        self.both(Fence(((0, 0), (90, 0), (0, 90))), Fence(((90, 90), (10, 90), (90, 10))), True)
        self.both(Fence(((0, 0), (90, 0), (0, 90))), Fence(((90, 90), (0, 90), (90, 10))), False)
        # One corner on the other's side.
        self.both(Fence(((0, 0), (4, 0), (0, 4))), Fence(((2, 2), (5, 2), (5, 5))), False)
        self.both(Fence(((0, 0), (4, 0), (0, 4))), Fence(((2, 3), (5, 2), (5, 5))), True)

    def test_sides_on_one_line(self):
        # Sides that lie on one line, but have no point in common; and those that have.
        cove, slant = Fence(COVE), Fence(slanted(COVE))
        for x, y, told in ((4, 7, True), (3, 7, False), (4, 1, False), (4, 4, True), (4, 3, False), (5, 7, False)):
            for quarters in range(4):
                box = moved(Fence(BOX), (x, y))
                self.both(turned(cove, quarters), turned(box, quarters), told)
                self.both(turned(slant, quarters), turned(Fence(slanted(box.corners)), quarters), told)
                self.both(mirrored(turned(slant, quarters)), mirrored(turned(Fence(slanted(box.corners)), quarters)), told)

    def test_boxes_that_overlap(self):
        # A stem that goes down into the bay, from a bar above it; a step of it is level with the upper sides of cove.
        cove = Fence(COVE)
        for left, told in ((4, True), (3, False)):
            stem = Fence(((5, 5), (6, 5), (6, 12), (15, 12), (15, 14), (-5, 14), (-5, 12), (left, 12), (left, 9), (5, 9)))
            for quarters in range(4):
                self.both(turned(cove, quarters), turned(stem, quarters), told)

    def test_against_all_sides(self):
        numbers, found = random.Random(62), {True: 0, False: 0}
        fences = fences_of_all_kinds()
        for fence in fences:
            for _ in range(3):
                other = numbers.choice(fences[:40])
                other = moved(other, (numbers.randint(-8, 8), numbers.randint(-8, 8)))
                told = apart(fence, other)
                self.both(fence, other, told)
                found[told] += 1
        self.assertGreater(min(found.values()), 40)

    def test_fences_wanted(self):
        for value in NO_FENCES:
            self.raises(BadFence, ("one",), are_apart, value, None)
            self.raises(BadFence, ("other",), are_apart, Fence(SQUARE), value)

    def test_short_time(self):
        for fence in (comb(100, 10 ** 6), spiral(199), Fence(slanted(spiral_corners(199)))):
            for by in ((0, 1), (10 ** 6, 0), (7, 7)):
                self.is_short(are_apart, fence, moved(fence, by))


class Charts(Case):
    def test_attributes(self):
        square, box = Fence(SQUARE), moved(Fence(BOX), (9, 9))
        pairs = [["b", square], ("a", box)]
        chart = Chart(pairs)
        self.assertEqual([chart.names, [name for name, _ in chart.pairs]], [("b", "a"), ["b", "a"]])
        self.assertEqual([type(chart.pairs), type(chart.pairs[0]), type(chart.names)], [tuple] * 3)
        self.assertTrue(chart.pairs[0][1] == square and chart.pairs[1][1] == box)
        pairs[0][0] = "c"
        pairs.pop()
        self.assertEqual(chart.names, ("b", "a"))
        self.assertTrue(Chart(pairs=(("b", square), ["a", box])) == chart)
        for other in (Chart([("a", box), ("b", square)]), Chart([("b", square)]), Chart([("b", square), ("c", box)]),
                      Chart([("b", begun(square, 1)), ("a", box)])):
            self.assertFalse(other == chart)
        for value in NO_CHARTS:
            self.assertIs(chart == value, False)
            self.assertIs(chart != value, True)

    def test_fence_of_a_name(self):
        chart = in_a_row([Fence(SQUARE), Fence(NOTCH)])
        self.assertTrue(chart.fence("n1") == moved(Fence(NOTCH), (100, 0)))
        self.assertTrue(chart.fence(name="n0") == Fence(SQUARE))
        for value in NO_NAMES + ("n2", "N0", "n", 1, ("n0",), {"n0": 1}, [["n0"]]):
            self.raises(NoName, (value,), chart.fence, value)

    def test_one_to_twelve(self):
        for many in (1, 2, 11, 12):
            chart = in_a_row([Fence(SQUARE)] * many, 5)
            self.assertEqual(chart.names, tuple(f"n{at}" for at in range(many)))
            self.assertTrue(Chart.read(str(chart)) == chart)
        thirteen = [(f"n{at}", moved(Fence(SQUARE), (5 * at, 0))) for at in range(13)]
        self.raises(BadFence, ("pairs",), Chart, thirteen)
        self.raises(BadFence, ("pairs",), Chart, tuple(thirteen))
        self.raises(BadFence, ("pairs",), Chart, [])

    def test_no_pairs(self):
        square = Fence(SQUARE)
        for value in NO_FENCES + ("a", ("a", square), ["a", square], {"a": square}, iter([("a", square)]), square):
            self.raises(BadFence, ("pairs",), Chart, value)
        far = moved(square, (9, 0))
        for pair in [(name, far) for name in NO_NAMES] + [("b", value) for value in NO_FENCES] + [
                ("b",), ("b", far, far), (far, "b"), "bx", None, {"b": far}, [["b", far]], iter(("b", far))]:
            self.raises(BadFence, ("pairs",), Chart, [pair])
            self.raises(BadFence, ("pairs",), Chart, [("a", square), pair])
            # Ahead of a name that stands there already.
            self.raises(BadFence, ("pairs",), Chart, [("a", square), ("a", square), pair])

    def test_twice_ahead_of_misfit(self):
        square, box = Fence(SQUARE), Fence(BOX)
        far = moved(box, (50, 50))
        self.raises(Twice, ("a",), Chart, [("a", square), ("a", box)])
        self.raises(Twice, ("b",), Chart, [("a", square), ("b", box), ("b", far), ("a", far)])
        self.raises(Twice, ("a",), Chart, [("a", square), ("b", box), ("a", far), ("b", far)])
        for pairs in ([("a", square), ("b", box)], [("a", box), ("c", far), ("b", square)],
                      [("c", far), ("a", square), ("b", moved(box, (4, 4)))]):
            self.raises(Misfit, ("pairs",), Chart, pairs)
            self.raises(Misfit, ("pairs",), Chart, pairs[::-1])
        self.assertEqual(Chart([("a", square), ("b", moved(box, (5, 4)))]).names, ("a", "b"))

    def test_names(self):
        for name in tuple("abcdefghijklmnopqrstuvwxyz") + ("a0", "abcdefghijkl", "x12345678901", "opqrstuvwxyz"):
            self.assertEqual(Chart([(name, Fence(BOX))]).names, (name,))
            self.assertEqual(str(Chart([(name, Fence(BOX))])), f"{name} 0 0 / 2 0 / 2 2 / 0 2")

    def test_short_time(self):
        for fence, by in ((comb(25, 10 ** 6), (0, 3 * 10 ** 6)), (comb(100, 5), (0, 7)), (spiral(199), (500, 0)),
                          (Fence(slanted(spiral_corners(49))), (200, 0)), (Fence(slanted(comb_corners(100, 50))), (3, -3))):
            row = [("n%d" % at, moved(fence, (by[0] * at, by[1] * at))) for at in range(12)]
            try:
                chart = self.is_short(Chart, row)
            except Misfit:
                continue
            self.assertTrue(self.is_short(Chart.read, self.is_short(str, chart)) == chart)


class Texts(Case):
    def test_back_and_forth(self):
        for chart in drawn_charts(20):
            self.assertEqual(str(chart), " | ".join(f"{name} {fence}" for name, fence in chart.pairs))
            self.assertTrue(Chart.read(text=str(chart)) == chart)
        far = moved(Fence(SQUARE), (10 ** 140 - 5, 5 - 10 ** 140))
        self.assertTrue(Chart.read(str(Chart([("a", far)]))).fence("a") == far)

    def test_by_hand(self):
        for text, item in (
            ("", 0), ("A 0 0 / 1 0 / 0 1", 0), ("a", 1), ("a 0", 2), ("a 0 0", 3), ("a 0 0 /", 4), ("a 0 0 / 1 0", 6),
            ("a 0 0 / 1 0 |", 6), ("a 0 0 | b 1 0 / 0 1", 3), ("a 0 0 / 1 0 / 0 1 /", 10), ("a 0 0 / 1 0 / 0 1 |", 10),
            ("a 0 0 / 1 0 / 0 1 | ", 10), ("a 0 0 / 1 0 / 0 1 | |", 10), ("a 0 0 / 1 0 / 0 1 | 5 5 / 6 5 / 5 6", 10),
            ("a 0 0 / 1 0 / 0 1 | a 5 5 / 6 5 / 5 6", 10), ("a 0 0 / 1 0 / 0 1 | b", 11), ("a 0 0 / 1 0 / 0 1 / b", 10),
            ("a 0 0 / 1 0 / 0 1 | b 5 5 / 6 5 /", 17), ("a 0 0 / 1 0 / 0 1 | b 5 5 / 6 5 / 5 6 x", 19),
            ("a 0 0 / 1 0 / 0 | b 5 5 / 6 5 / 5 6", 8), ("a 0 0 / 1 0 / | b 5 5 / 6 5 / 5 6", 7),
            ("| a 0 0 / 1 0 / 0 1", 0), ("a 0 0 / 1 0 / 0 1 ", 9), (" a 0 0 / 1 0 / 0 1", 0), ("a  0 0 / 1 0 / 0 1", 1),
            ("a 0 0 / 1 0 / 0 01", 8), ("a 0 0 | 1 0 | 0 1", 3), ("a 0 0 / 1 0 / 0 " + "9" * 141, 8),
            # What only the whole shows: the last item.
            ("a 0 0 / 0 1 / 1 0", 8), ("a 0 0 / 0 1 / 1 0 | b 5 5 / 6 5 / 5 6", 18),
            ("a 0 0 / 1 0 / 0 1 | b 5 5 / 5 6 / 6 5", 18), ("a 0 0 / 1 0 / 0 1 | b 0 0 / 1 0 / 0 1", 18),
            ("a 0 0 / 1 0 / 0 1 | b 1 0 / 2 0 / 1 1 | c 9 9 / 10 9 / 9 10", 28),
            # Where an item cannot stand, this comes first.
            ("a 0 0 / 0 1 / 1 0 | a 5 5 / 6 5 / 5 6", 10), ("a 0 0 / 0 1 / 1 0 | b 5 5 / 6 5 / 5 x", 18),
        ):
            self.raises(BadText, (0, item), Chart.read, text)

    def test_each_item_bent(self):
        text = str(Chart([("a", Fence(NOTCH)), ("b", moved(Fence(BOX), (9, 9))), ("c", moved(Fence(NEEDLE), (0, 9)))]))
        items = text.split(" ")
        bars = [at for at, item in enumerate(items) if item == "|"]
        for at, item in enumerate(items):
            for bent in ("", "x!", "-0", "07", "1.0", "|", "/", "a", "3x", "+1", "9" * 141):
                # Beside the slashes and bars all of these are wrong, but for the first name.
                if (at, bent) != (0, "a") and not (item in "/|" and bent in "/|"):
                    self.raises(BadText, (0, at), Chart.read, " ".join(items[:at] + [bent] + items[at + 1:]))
        for at in bars:
            # As a slash it goes on with a corner; there a name stands.
            self.raises(BadText, (0, at + 1), Chart.read, " ".join(items[:at] + ["/"] + items[at + 1:]))

    def test_cut_at_each_item(self):
        text = str(Chart([("a", Fence(NOTCH)), ("b", moved(Fence(BOX), (9, 9))), ("c", moved(Fence(NEEDLE), (0, 9)))]))
        items, begin, whole = text.split(" "), 0, 0
        for at in range(len(items)):
            if at - begin >= 9 and (at - begin) % 3 == 0:
                # Three corners of notch are a fence, and so are four.
                self.assertEqual(str(Chart.read(" ".join(items[:at]))), " ".join(items[:at]))
                whole += 1
            else:
                self.raises(BadText, (0, at), Chart.read, " ".join(items[:at]))
            if items[at] == "|":
                begin = at + 1
        self.assertEqual(whole, 5)

    def test_400_corners_and_12_fences(self):
        row = comb_corners(400, 5)
        full = " / ".join(f"{x} {y}" for x, y in row)
        chart = Chart.read(f"a {full} | b 0 50 / 1 50 / 0 51")
        self.assertEqual([chart.fence("a").many, chart.names], [400, ("a", "b")])
        self.raises(BadText, (0, 1200), Chart.read, f"a {full} / 0 3")
        self.raises(BadText, (0, 10 + 1200), Chart.read, f"b 0 50 / 1 50 / 0 51 | a {full} / 0 3")
        twelve = " | ".join(f"n{at} {9 * at} 0 / {9 * at + 1} 0 / {9 * at} 1" for at in range(12))
        self.assertEqual(len(Chart.read(twelve).names), 12)
        for behind_it in ("", " n12 200 0 / 201 0 / 200 1", " n0", " |"):
            self.raises(BadText, (0, 119), Chart.read, twelve + " |" + behind_it)
        self.raises(BadText, (0, 119), Chart.read, twelve + " ")

    def test_no_strings(self):
        for value in (None, True, 0, b"a 0 0 / 1 0 / 0 1", ["a"], ("a",), {}, object(), Chart([("a", Fence(BOX))])):
            self.raises(BadText, (0, 0), Chart.read, value)


class Outings(Case):
    def test_against_all_sides(self):
        numbers, many = random.Random(63), {True: 0, False: 0}
        for chart in drawn_charts(50):
            found = outings_and_met(chart)
            self.assertEqual(outings_of(chart), tuple(found))
            self.assertEqual(let_of(chart), tuple(outing for outing, met in found.items() if not met))
            for outing in numbers.sample(sorted(found), min(4, len(found))):
                many[not found[outing]] += 1
                if found[outing]:
                    self.raises(Misfit, ("outing",), put_out, chart, outing)
                else:
                    there = put_out(chart, numbers.choice((outing, list(outing))))
                    self.assertTrue(there == Chart(behind_outing(chart, outing)))
                    self.assertIs(type(there), Chart)
        self.assertGreater(min(many.values()), 10)

    def test_within_a_bay(self):
        # What lies in the bay, and what lies where it is turned to, and what lies behind both.
        cove, box = Fence(COVE), Fence(BOX)
        for by, let in (((4, 5), False), ((4, 12), False), ((4, 16), True), ((4, 15), False), ((0, 10), True), ((-3, 0), True)):
            chart = Chart([("c", cove), ("b", moved(box, by))])
            self.assertEqual(("c", 3, 6) in let_of(chart), let)
            self.assertEqual(len(outings_of(chart)), 4)
        # Land behind a turning that lies within the gained land wholly, without any side met.
        self.assertEqual(let_of(Chart([("c", grown(cove, 9)), ("b", moved(box, (40, 70)))])), ())

    def test_each_way(self):
        # A dent on each side, turned out towards what lies just within its reach, and just beyond it.
        dent, box = grown(Fence(NOTCH), 10), Fence(BOX)
        for quarters in range(4):
            for by in ((0, 0), (1000, 1000), (-1000, 1000), (1000, -1000), (-1000, -1000)):
                fence = moved(turned(dent, quarters), by)
                for x, y, let in ((19, 60, False), (19, 61, True), (19, 58, False), (7, 49, False), (6, 49, True),
                                  (2, 45, True), (32, 49, True), (31, 49, False), (19, 32, False)):
                    there = moved(turned(moved(box, (x, y)), quarters), by)
                    chart = Chart([("a", fence), ("b", there)])
                    self.assertEqual(let_of(chart), (("a", 2, 4),) if let else ())
                    self.assertEqual(apart(turned_out(fence, (2, 4)), there), let)

    def test_wrong_outings(self):
        chart = Chart([("a", Fence(NOTCH)), ("b", moved(Fence(TUB), (20, 0)))])
        for value in NO_FENCES + (
            ("a", 4, 2), ("a", 2, 2), ("a", 0, 1), ("b", 2, 4), ("c", 2, 4), ("", 2, 4), (None, 2, 4), ("a", 2), ("a",),
            ("a", 2, 4, 4), ("a", (2, 4)), ("a", 2.0, 4), ("a", True, 4), ("a", "2", "4"), "a24", {"a": 2}, (["a"], 2, 4),
            ("a", 2, GREAT), ("a", -3, 4), (2, 4, "a"), ("A", 2, 4), (b"a", 2, 4), ("a", None, None), {"a", 2, 4},
        ):
            self.raises(BadMouth, ("outing",), put_out, chart, value)
        self.assertTrue(put_out(outing=["a", 2, 4], chart=chart).fence("a") == turned_out(Fence(NOTCH), (2, 4)))

    def test_charts_wanted(self):
        for value in NO_CHARTS:
            for function, more in ((outings_of, ()), (let_of, ()), (put_out, (None,)), (behind, (None,)), (fields_of, ()),
                                   (meetings, ()), (judged, ())):
                self.raises(BadFence, ("chart",), function, value, *more)

    def test_short_time(self):
        for fence, by in ((comb(25, 10 ** 6), (0, 2 * 10 ** 6)), (comb(25, 5), (0, 7)), (comb(25, 5), (60, 0)),
                          (spiral(49), (60, 0)), (Fence(slanted(spiral_corners(49), 1000)), (200000, 0))):
            chart = Chart([(f"n{at}", moved(fence, (by[0] * at, by[1] * at))) for at in range(12)])
            for function in (outings_of, let_of, fields_of, meetings):
                self.is_short(function, chart)
            self.is_short(put_out, chart, let_of(chart)[0])


class Courses(Case):
    def drawn_course(self, chart, numbers):
        course = []
        while True:
            let = [outing for outing, met in outings_and_met(chart).items() if not met]
            if not let or len(course) > 5:
                return course, chart
            course.append(numbers.choice(let))
            chart = Chart(behind_outing(chart, course[-1]))

    def test_along_courses(self):
        numbers, longest, wrong = random.Random(64), 0, 0
        for chart in drawn_charts(25):
            course, last = self.drawn_course(chart, numbers)
            before = str(chart)
            longest = max(longest, len(course))
            self.assertTrue(behind(chart, course) == last)
            self.assertTrue(behind(course=tuple(list(outing) for outing in course), chart=chart) == last)
            self.assertTrue(behind(chart, []) == chart)
            for outing, met in outings_and_met(last).items():
                if met:
                    wrong += 1
                    self.raises_line(len(course), Misfit, ("outing",), behind, chart, course + [outing, ("no", 1, 2)])
            for at in range(len(course) + 1):
                for outing in (("a", 0, 0), ("no", 1, 2), ("b2", 399, 0), ["zz", GREAT, -1]):
                    self.raises_line(at, BadMouth, ("outing",), behind, chart, course[:at] + [outing] + course[at:])
            self.assertEqual(str(chart), before)
        self.assertGreater(longest, 4)
        self.assertGreater(wrong, 5)

    def test_no_courses(self):
        chart = Chart([("a", Fence(NOTCH))])
        for value in (None, True, 0, "", "a 2 4", b"", {}, {("a", 2, 4)}, {("a", 2, 4): 1}, iter([]), ("a", 2, 4),
                      ["a", 2, 4], object(), range(0), chart):
            self.raises(BadFilm, ("course",), behind, chart, value)
        for outing in (None, True, "a24", ("a", 2), ("a", 2, 4, 4), (1, 2, 4), ("a", 2, True), ("a", 2.0, 4), ("a", "2", 4),
                       ("a", (2, 4)), {"a": 2}, (None, 2, 4), (("a",), 2, 4), [], (b"a", 2, 4), ("a", None, 4)):
            for course in ([outing], [("a", 2, 4), outing], [("a", 9, 9), outing], (outing, ("a", 2, 4))):
                self.raises(BadFilm, ("course",), behind, chart, course)

    def test_thousand_triples(self):
        chart = Chart([("a", Fence(NOTCH))])
        self.raises_line(1, BadMouth, ("outing",), behind, chart, [("a", 2, 4)] * 1000)
        self.raises(BadFilm, ("course",), behind, chart, [("a", 2, 4)] * 1001)
        self.raises(BadFilm, ("course",), behind, chart, (("no", 2, 4),) * 1001)
        # Five zigzags of 199 points, far from one another.
        chart = Chart([(f"n{at}", moved(zigzag(199), (0, 50000 * at))) for at in range(5)])
        course = [(name, p, q) for name, fence in chart.pairs for p, q in film_out(fence)]
        self.assertEqual(len(course), 5 * len(film_out(zigzag(199))))
        there = self.is_short(behind, chart, course)
        self.assertEqual([end_of(fence).corners for _, fence in there.pairs], [row for _, row in fields_of(chart)])
        self.assertEqual(outings_of(there), ())
        self.raises_line(len(course), BadMouth, ("outing",), behind, chart, course + [("no", 1, 2)] * (1000 - len(course)))

    def test_nothing_is_changed(self):
        course = [["a", 2, 4]]
        chart = Chart([["a", Fence(NOTCH)], ["b", moved(Fence(BOX), (9, 9))]])
        before = str(chart)
        self.assertFalse(behind(chart, course) == chart)
        put_out(chart, course[0])
        judged(chart)
        self.assertEqual([course, str(chart)], [[["a", 2, 4]], before])


class Judged(Case):
    def test_papers(self):
        free = Free(fields=[["a", [[0, 1], (2, 3)]]])
        self.assertEqual([free.word, free.parts, free.fields, bool(free)],
                         ["free", ((("a", ((0, 1), (2, 3))),),), (("a", ((0, 1), (2, 3))),), True])
        clash = Clash("a", other=["b", []], course=[["a", 1, 2]])
        self.assertEqual([clash.word, clash.parts, clash.one, clash.other, clash.course, bool(clash)],
                         ["clash", ("a", ("b", ()), (("a", 1, 2),)), "a", ("b", ()), (("a", 1, 2),), False])
        self.assertEqual([Free.__bases__, Clash.__bases__], [(Paper,), (Denial,)])
        self.assertTrue(Free([]) == Free(()))
        self.assertFalse(Free([]) == Paper("free", []))
        self.assertFalse(Clash(1, 2, 3) == Denial("clash", 1, 2, 3))

    def test_against_all_courses(self):
        lengths, searched = set(), 0
        for chart in drawn_charts(70):
            meet = fields_that_meet(chart)
            self.assertEqual(fields_of(chart), tuple((name, end_of(fence).corners) for name, fence in chart.pairs))
            self.assertEqual(meetings(chart), tuple(meet))
            told = judged(chart)
            if meet:
                self.assertIs(type(told), Clash)
                self.assertTrue(is_clash(chart, *told.parts))
                lengths.add(len(told.course))
            else:
                self.assertTrue(told == Free(fields_of(chart)))
                self.assertIs(type(told), Free)
            ever = is_anything_not_let(chart)
            if ever is not None:
                self.assertEqual(ever, bool(meet))
                searched += 1
        self.assertLessEqual({0, 1, 2}, lengths)
        self.assertGreater(searched, 60)

    def test_order_of_meetings(self):
        # All fields meet but those of c; the chart tells the order, not the names.
        dents = [moved(Fence(NOTCH), by) for by in ((0, 0), (3, 5), (6, 0))]
        chart = Chart([("z", dents[0]), ("c", moved(Fence(BOX), (90, 0))), ("m", dents[1]), ("a", dents[2])])
        self.assertEqual(meetings(chart), (("z", "m"), ("m", "a")))
        self.assertEqual(meetings(Chart(chart.pairs[::-1])), (("a", "m"), ("m", "z")))

    def test_a_third_one_in_the_way(self):
        # Fields of a and b meet; c lies in the bay of a: it is met first, and is told.
        cove = Fence(COVE)
        chart = Chart([("a", cove), ("b", moved(cove, (0, 14))), ("c", moved(Fence(BOX), (4, 5)))])
        told = judged(chart)
        self.assertIs(type(told), Clash)
        self.assertTrue(is_clash(chart, *told.parts))

    def test_convex_ones_are_free(self):
        chart = in_a_row([Fence(SQUARE), Fence(BOX), Fence(NEEDLE)], 5)
        self.assertEqual([outings_of(chart), let_of(chart), meetings(chart)], [(), (), ()])
        self.assertEqual(judged(chart).fields, tuple((name, end_of(fence).corners) for name, fence in chart.pairs))

    def test_free_charts_can_be_led_on(self):
        numbers, long = random.Random(65), 0
        for chart in drawn_charts(40):
            if not judged(chart):
                continue
            there, course = chart, []
            while outings_of(there):
                self.assertEqual(let_of(there), outings_of(there))
                course.append(numbers.choice(outings_of(there)))
                there = put_out(there, course[-1])
            self.assertTrue(behind(chart, course) == there)
            self.assertTrue(all(is_convex(fence) for _, fence in there.pairs))
            self.assertEqual([end_of(fence).corners for _, fence in there.pairs], [row for _, row in fields_of(chart)])
            long = max(long, len(course))
        self.assertGreater(long, 5)

    def test_thousand_turnings(self):
        five = [zigzag(199)] * 5
        self.assertEqual(at_most(zigzag(199)), 198)
        chart = Chart([(f"n{at}", moved(fence, (0, 1000 * at))) for at, fence in enumerate(five + [zigzag(11)])])
        self.assertEqual(sum(at_most(fence) for _, fence in chart.pairs), 1000)
        self.assertTrue(judged(chart) == Free(fields_of(chart)))
        for by in ((0, 5000), (0, 3)):
            more = Chart(chart.pairs[:5] + (("b", moved(zigzag(12), by)),))
            self.raises(TooMany, ("turnings", 1000), judged, more)
            self.assertEqual(len(fields_of(more)), 6)
            self.assertEqual(bool(meetings(more)), by == (0, 3))
        near = Chart([(f"n{at}", moved(fence, (0, 3 * at))) for at, fence in enumerate(five)])
        told = self.is_short(judged, near)
        self.assertIs(type(told), Clash)
        self.raises_line(len(told.course), BadMouth, ("outing",), behind, near, told.course + (("no", 1, 2),))

    def test_short_time(self):
        for fence, by in ((spiral(9), (12, 0)), (stairs(9), (9, 2)), (comb(5, 9), (0, 30)), (mirrored(zigzag(9)), (0, 4)),
                          (Fence(slanted(spiral_corners(9), 10 ** 4)), (10 ** 6, 0)), (comb(5, 10 ** 5), (30, 0))):
            chart = Chart([(f"n{at}", moved(fence, (by[0] * at, by[1] * at))) for at in range(6)])
            told = self.is_short(judged, chart)
            self.assertEqual(bool(told), not meetings(chart))


if __name__ == "__main__":
    unittest.main()
