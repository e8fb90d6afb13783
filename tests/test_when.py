import functools
import random
import unittest

from baysout.changed import grown, moved
from baysout.counts import all_stages
from baysout.ends import end_of
from baysout.errors import BadFence, BadFilm, BadMouth, BadPoint, TooMany
from baysout.fences import Fence, points_of
from baysout.films import film_out, stages
from baysout.makes import comb, spiral
from baysout.mouths import first_mouths, mouths_of
from baysout.papers import Denial, Paper
from baysout.when import Already, Late, Never, Soon, gained, land_ever, latest, soonest, when
from tests.makers import (
    COMB, GREAT, MANY, NO_FENCES, NO_POINTS, NOTCH, SQUARE, TOO_MANY, TUB, Case, fences_of_all_kinds, film_by,
    narrow_mouths, slanted, spiral_corners,
)
from tests.oracles import box_of
from tests.slow_when import AllFilms, is_land
from tests.test_films import NO_FILMS, NO_PAIRS
from tests.test_tracks import CURVED, fences_with_films


@functools.cache
def searched():
    """Small fences, and all plain films of each."""
    fences = [Fence(row) for row in (SQUARE, NOTCH, COMB, TUB, CURVED, ((0, 0), (2, 1), (4, 0), (4, 4), (2, 3), (0, 4)))]
    fences += [fence for fence in fences_of_all_kinds() if 5 <= fence.many < 9 and all_stages(fence) < 30]
    return [(fence, AllFilms(fence)) for fence in fences]


def points_about(fence, numbers, many):
    """Points of all kinds: corners of the field and of the fence, points about them, far ones."""
    field = end_of(fence)
    box = box_of(field.corners + fence.corners)
    return list(numbers.sample(box, min(many, len(box)))) + list(field.corners[:2]) + list(fence.corners[:2]) + [
        (GREAT, 0), (0, -GREAT)]


class Papers(Case):
    def test_papers(self):
        for kind, word in ((Soon, "soon"), (Late, "late")):
            told = kind(film=[[1, 2], (3, 4)])
            self.assertEqual([told.word, told.parts, told.film, bool(told)],
                             [word, (((1, 2), (3, 4)),), ((1, 2), (3, 4)), True])
            self.assertEqual(kind.__bases__, (Paper,))
            self.assertTrue(kind(((1, 2), (3, 4))) == told)
            self.assertEqual(kind(None).film, None)
        for kind, word in ((Never, "never"), (Already, "already")):
            told = kind()
            self.assertEqual([told.word, told.parts, bool(told), kind.__bases__], [word, (), False, (Denial,)])
            self.assertTrue(kind() == told)
            self.assertFalse(told == Denial(word))
        self.assertFalse(Soon([]) == Late([]))
        self.assertFalse(Never() == Already())


class When(Case):
    def test_against_where(self):
        numbers, found = random.Random(101), {}
        for fence, film in fences_with_films():
            if fence.many > 20:
                continue
            rows = stages(fence, film)
            for point in points_about(fence, numbers, 3) + [numbers.choice(row.corners) for row in rows]:
                landed = [at for at, row in enumerate(rows) if is_land(row, point)]
                told = when(fence, film, point)
                self.assertEqual(told, landed[0] if landed else None)
                # What has come to land stays on land.
                self.assertEqual(landed, list(range(landed[0], len(rows))) if landed else [])
                found[told] = found.get(told, 0) + 1
        self.assertGreater(min(found[at] for at in (None, 0, 1, 2, 3)), 20)

    def test_on_sides_and_in_bays(self):
        notch = Fence(NOTCH)
        for point, told in (((2, 2), 0), ((3, 3), 0), ((2, 3), 1), ((2, 4), 1), ((1, 3), 0), ((2, 5), 1), ((2, 6), 1),
                            ((3, 5), 1), ((4, 5), None), ((2, 7), None), ((0, 0), 0), ((-1, 0), None), ((1, 5), 1)):
            self.assertEqual(when(notch, [(2, 4)], point), told)
            self.assertEqual(when(point=list(point), film=([2, 4],), fence=notch), told)
            self.assertEqual(when(notch, [], point), 0 if told == 0 else None)

    def test_great_fences(self):
        by = (GREAT, -3 * GREAT)
        for point, told in (((2 * GREAT, 2 * GREAT), 0), ((2 * GREAT, 2 * GREAT + 1), 1), ((2 * GREAT, 6 * GREAT), 1),
                            ((2 * GREAT, 6 * GREAT + 1), None)):
            fence = moved(grown(Fence(NOTCH), GREAT), by)
            self.assertEqual(when(fence, [(2, 4)], (point[0] + by[0], point[1] + by[1])), told)

    def test_errors_in_order(self):
        tub = Fence(TUB)
        self.no_fence_first(when, None, None)
        for film in NO_FILMS + tuple([pair] for pair in NO_PAIRS):
            self.raises(BadFilm, ("film",), when, tub, film, None)
        for point in NO_POINTS:
            for film in ([], [(0, 1)], [(3, 6), (3, 6)]):
                self.raises(BadPoint, ("point",), when, tub, film, point)
        for film, line in (([(0, 1)], 0), ([(3, 6), (3, 6)], 1), ([(3, 6), [2, 4], (399, 0)], 2)):
            # Though the point is on land at stage 0.
            self.raises_line(line, BadMouth, ("mouth",), when, tub, film, (0, 0))
            self.raises_line(line, BadMouth, ("mouth",), gained, tub, film)
        self.no_fence_first(gained, None)
        for film in NO_FILMS + tuple([pair] for pair in NO_PAIRS):
            self.raises(BadFilm, ("film",), gained, tub, film)


class Gained(Case):
    def test_against_a_count(self):
        for fence, film in fences_with_films():
            rows = stages(fence, film)
            if fence.many > 12 or len(rows) > 8:
                continue
            box = box_of(rows[-1].corners, 0)
            if len(box) > 100:
                continue
            landed = [sum(is_land(row, point) for point in box) for row in rows]
            told = gained(fence, film)
            self.assertEqual(told, tuple(more - less for less, more in zip(landed, landed[1:])))
            self.assertIs(type(told), tuple)

    def test_against_points_of(self):
        numbers = random.Random(102)
        for fence in fences_of_all_kinds():
            for choose in (mouths_of, first_mouths):
                film = film_by(fence, choose, numbers)
                many = [sum(points_of(row)) for row in stages(fence, film)]
                told = gained(fence, film)
                self.assertEqual(list(told), [more - less for less, more in zip(many, many[1:])])
                # All films that end gain as many, together.
                self.assertEqual(sum(told), sum(points_of(end_of(fence))) - sum(points_of(fence)))
        great = grown(Fence(NOTCH), 10 ** 6)
        self.assertEqual(gained(film=[[2, 4]], fence=great), (8 * 10 ** 12,))
        self.assertEqual(gained(great, ()), ())


class LandEver(Case):
    def test_against_the_field(self):
        numbers, found = random.Random(103), {}
        for fence in fences_of_all_kinds():
            for point in points_about(fence, numbers, 4):
                told = land_ever(fence, point)
                later = "later" if is_land(end_of(fence), point) else "never"
                self.assertEqual(told, "now" if is_land(fence, point) else later)
                found[told] = found.get(told, 0) + 1
        self.assertGreater(min(found[word] for word in ("now", "later", "never")), 100)

    def test_by_hand(self):
        told = [land_ever(fence=Fence(NOTCH), point=[2, y]) for y in (-1, 0, 1, 2, 3, 5, 6, 7)]
        self.assertEqual(told, ["never", "now", "now", "now", "later", "later", "later", "never"])

    def test_errors(self):
        for function in (land_ever, soonest, latest):
            self.no_fence_first(function, None)
            for point in NO_POINTS:
                self.raises(BadPoint, ("point",), function, Fence(NOTCH), point)
                self.raises(BadPoint, ("point",), function, Fence(TOO_MANY), point)


class Searches(Case):
    def test_against_all_films(self):
        numbers, seen = random.Random(104), set()
        for fence, films in searched():
            for point in points_about(fence, numbers, 5):
                soon, late = films.soonest(point), films.latest(point)
                told = soonest(fence, point)
                self.assertIs(type(told), Soon if soon else Never)
                if soon:
                    self.assertIn(told.film, soon)
                    seen.add(("soon", len(soon[0])))
                other = latest(fence, point)
                self.assertIs(type(other), Late if late else Already)
                if late:
                    self.assertIn(other.film, late)
                    seen.add(("late", len(late[0])))
                ever = land_ever(fence, point)
                self.assertEqual((bool(told), bool(other)), (ever != "never", ever != "now"))
                seen.add((ever, len(soon) > 1, len(late) > 1))
        self.assertLessEqual({("soon", 0), ("soon", 1), ("soon", 2), ("late", 0), ("late", 1), ("late", 2)}, seen)
        self.assertLessEqual({("now", False, False), ("later", False, False), ("later", True, False), ("never", False, True)},
                             seen)

    def test_by_hand(self):
        notch = Fence(NOTCH)
        self.assertTrue(soonest(point=[2, 3], fence=notch) == Soon([(2, 4)]))
        self.assertTrue(latest(point=[2, 3], fence=notch) == Late([]))
        self.assertTrue(soonest(notch, (2, 2)) == Soon(()))
        self.assertTrue(latest(notch, (2, 2)) == Already())
        self.assertTrue(soonest(notch, (2, 7)) == Never())
        self.assertTrue(latest(notch, (2, 7)) == Late([(2, 4)]))
        self.assertTrue(soonest(Fence(SQUARE), (9, 9)) == Never())
        self.assertTrue(latest(Fence(SQUARE), (9, 9)) == Late(()))

    def test_just_three_hundred_stages(self):
        fence = Fence(MANY)
        self.assertEqual(all_stages(fence), 300)
        field = end_of(fence)
        for point in ((5, 5), (2, 5), field.corners[0], field.corners[-1], (GREAT, GREAT), MANY[0]):
            for function in (soonest, latest):
                told = self.is_short(function, fence, point)
                self.assertEqual(bool(told), land_ever(fence, point) != ("never" if function == soonest else "now"))

    def test_more_stages(self):
        fence = Fence(TOO_MANY)
        for function in (soonest, latest):
            for point in (TOO_MANY[0], (GREAT, GREAT), end_of(fence).corners[0], (6, 6)):
                self.raises(TooMany, ("fences", 300), function, fence, point)
            self.raises(TooMany, ("fences", 300), self.is_short, function, comb(100, 10 ** 6), (0, 0))
        self.assertEqual(land_ever(fence, TOO_MANY[0]), "now")

    def test_fences_ahead_of_points(self):
        for value in NO_FENCES:
            for function in (land_ever, soonest, latest):
                self.raises(BadFence, ("fence",), function, value, value)


class Times(Case):
    def test_short_time(self):
        for fence in (comb(25, 10 ** 5), spiral(49), Fence(slanted(spiral_corners(49), 10 ** 4)), Fence(MANY)):
            for film in (film_out(fence)[:60], narrow_mouths(fence, 60 if fence == comb(25, 10 ** 5) else 40) if fence.many > 90 else []):
                field = end_of(fence)
                for point in (fence.corners[0], field.corners[0], (1, 1), (GREAT, 0)):
                    self.is_short(when, fence, film, point)
                    self.is_short(land_ever, fence, point)
                self.is_short(gained, fence, film)
        for row in (MANY, spiral_corners(49), spiral_corners(199)):
            for function in (soonest, latest):
                self.is_short(function, Fence(row), (3, 50))


if __name__ == "__main__":
    unittest.main()
