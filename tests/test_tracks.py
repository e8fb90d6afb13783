import random
import unittest

from baysout.changed import begun
from baysout.ends import end_of
from baysout.errors import BadFence, BadFilm, BadMouth, BadNumber, Misfit
from baysout.fences import Fence
from baysout.films import film_out, played, stages
from baysout.hulls import is_convex
from baysout.lifts import lifted_less, lifts_of
from baysout.makes import comb, spiral, zigzag
from baysout.mouths import first_mouths, mouths_of
from baysout.tracks import corners_by, places_behind, sides_behind, track_of
from tests.makers import (
    GREAT, NO_INTEGERS, NOTCH, TUB, Case, fences_of_all_kinds, film_by, narrow_mouths, slanted, spiral_corners,
)
from tests.oracles import place_behind, places_that_add_up, put_half_round, side_at
from tests.test_films import NO_FILMS, NO_PAIRS

CURVED = ((4, 0), (3, 2), (4, 3), (1, 2), (2, 3), (0, 2))


def fences_with_films():
    """Fences, each with several films of none to many turnings, of any mouths and of first ones, over corner 0 too."""
    numbers = random.Random(81)
    for fence in fences_of_all_kinds():
        for choose in (mouths_of, first_mouths):
            there = begun(fence, numbers.randrange(fence.many))
            film = film_by(there, choose, numbers)
            yield there, film
            yield there, film[:numbers.randint(0, len(film))]
        yield fence, []


def drawn_places(many, numbers):
    """Places for a fence of so many corners, far from one another, rounds away."""
    places = [place + many * numbers.randint(-5, 5) for place in range(many)]
    numbers.shuffle(places)
    more = sum(places) - many * (many - 1) // 2
    places[numbers.randrange(many)] -= more
    return places


class Behind(Case):
    def test_against_places_put_about(self):
        below, beyond, over, long = 0, 0, 0, 0
        for fence, film in fences_with_films():
            many = fence.many
            sides, places = sides_behind(fence, film), places_behind(fence, film)
            self.assertEqual(sides, tuple(side_at(place, film, many) for place in range(many)))
            self.assertEqual(places, tuple(place_behind(side, film, many) for side in range(many)))
            self.assertEqual([type(sides), type(places)], [tuple, tuple])
            self.assertEqual(sum(places), sum(range(many)))
            below, beyond = below + (min(places) < 0), beyond + (max(places) >= many)
            over += any(p > q for p, q in film)
            long = max(long, len(film))
            if min(sides) >= 0 and max(sides) < many:
                self.assertEqual([places[side] for side in sides], list(range(many)))
        self.assertGreater(min(below, beyond, over), 30)
        self.assertGreater(long, 10)

    def test_both_tell_the_same(self):
        for fence, film in fences_with_films():
            many, places = fence.many, places_behind(fence, film)
            for place, side in enumerate(sides_behind(fence, film)):
                self.assertEqual(places[side % many] + many * (side // many), place)

    def test_sides_of_the_last_stage(self):
        for fence, film in fences_with_films():
            last = played(fence, film)
            self.assertEqual(last.sides, tuple(fence.sides[side % fence.many] for side in sides_behind(fence, film)))
            self.assertEqual(corners_by(fence, places_behind(fence, film)), last.corners)

    def test_ended_films_sort_the_lifted_directions(self):
        for fence, film in fences_with_films():
            if is_convex(played(fence, film)):
                lifts, many = lifts_of(fence), fence.many
                row = [(lifts[side % many][0] + side // many, lifts[side % many][1]) for side in sides_behind(fence, film)]
                for one, other in zip(row, row[1:]):
                    self.assertIs(lifted_less(other, one), False)

    def test_by_hand(self):
        curved = Fence(CURVED)
        self.assertEqual(sides_behind(film=[[2, 4]], fence=curved), (0, 1, 3, 2, 4, 5))
        self.assertEqual(places_behind(film=(), fence=curved), (0, 1, 2, 3, 4, 5))
        turned = Fence([(2, 2), (0, 4), (0, 0), (4, 0), (4, 4)])
        self.assertEqual([sides_behind(turned, [(4, 1)]), places_behind(turned, [(4, 1)])], [(-1, 1, 2, 3, 5), (-1, 1, 2, 3, 5)])


class Track(Case):
    def test_each_corner(self):
        for fence, film in fences_with_films():
            rows = [fence.corners]
            for p, q in film:
                rows.append(put_half_round(rows[-1], p, q))
            self.assertEqual([stage.corners for stage in stages(fence, film)], rows)
            for at in range(fence.many):
                told = track_of(fence, film, at)
                self.assertEqual(told, tuple(row[at] for row in rows))
                self.assertIs(type(told), tuple)

    def test_by_hand(self):
        self.assertEqual(track_of(at=3, film=[[2, 4]], fence=Fence(NOTCH)), ((2, 2), (2, 6)))
        self.assertEqual(track_of(Fence(NOTCH), (), 0), ((0, 0),))

    def test_no_number_of_a_corner(self):
        for film in ([], [(2, 4)], [(0, 1)], [(2, 4), (2, 4)]):
            for at in (5, -1, 6, 400, GREAT, -GREAT) + NO_INTEGERS:
                self.raises(BadNumber, ("at",), track_of, Fence(NOTCH), film, at)
        for film in NO_FILMS + tuple([pair] for pair in NO_PAIRS):
            self.raises(BadFilm, ("film",), track_of, Fence(NOTCH), film, None)
        self.no_fence_first(track_of, None, None)


class Errors(Case):
    def test_films(self):
        for function in (sides_behind, places_behind, lambda fence, film: track_of(fence, film, 0)):
            self.no_fence_first(function, None)
            for film in NO_FILMS + tuple([pair] for pair in NO_PAIRS):
                self.raises(BadFilm, ("film",), function, Fence(TUB), film)
            for film, line in (([(0, 1)], 0), ([(6, 3)], 0), ([(3, 6), (3, 6)], 1), ([(3, 6), [2, 4], (399, 0)], 2)):
                self.raises_line(line, BadMouth, ("mouth",), function, Fence(TUB), film)


class CornersBy(Case):
    def test_drawn_places(self):
        numbers, whole = random.Random(82), 0
        for fence in fences_of_all_kinds():
            for _ in range(3):
                places = drawn_places(fence.many, numbers)
                told = corners_by(fence, places)
                self.assertEqual(told, places_that_add_up(fence.corners, places))
                self.assertEqual([type(told), type(told[0]), len(told)], [tuple, tuple, fence.many])
                whole += len(set(told)) == fence.many
            self.assertEqual(corners_by(places=tuple(range(fence.many)), fence=fence), fence.corners)
        # Some of them cross themselves, or come by a point twice.
        self.assertGreater(whole, 10)

    def test_far_places(self):
        notch = Fence(NOTCH)
        far = corners_by(notch, (5 * GREAT, 1, 2, 3, 4 - 5 * GREAT))
        self.assertEqual(far[0], (-4 * GREAT, 0 - 4 * GREAT))
        self.assertEqual(corners_by(notch, (5, 1, 2, 3, -1)), places_that_add_up(NOTCH, (5, 1, 2, 3, -1)))

    def test_field_by_places(self):
        for fence, film in fences_with_films():
            if is_convex(played(fence, film)):
                told = corners_by(fence, places_behind(fence, film))
                self.assertLessEqual(set(end_of(fence).corners), set(told))

    def test_no_list_of_integers(self):
        notch = Fence(NOTCH)
        for places in NO_INTEGERS + (0, 5, "01234", (0, 1, 2, 3), (0, 1, 2, 3, 4, 5), [], (0, 1, 2, 3, True), (0, True, 2, 3, 4),
                                     (False, 1, 2, 3, 4), (0, 1, 2, 3, 4.0), (0, 1, 2, 3, None), (0, 1, 2, 3, "4"),
                                     {0, 1, 2, 3, 4}, {at: at for at in range(5)}, range(5), iter(range(5)),
                                     ((0,), (1,), (2,), (3,), (4,)), "0 1 2 3 4"):
            self.raises(BadNumber, ("places",), corners_by, notch, places)
        for value in ((0, 1, 2, 3, 4), None):
            self.no_fence_first(corners_by, value)

    def test_no_places(self):
        notch = Fence(NOTCH)
        for places in ((0, 1, 2, 3, 5), (0, 1, 2, 3, 9), (0, 0, 2, 3, 5), (1, 2, 3, 4, 5), (-1, 0, 1, 2, 3), (0, 5, 2, 3, 0),
                       (0, 1, 2, 3, 3), (2, 2, 2, 2, 2), (0, 1, 2, 7, 0), (0, 0, 0, 0, 10), (5, 6, 7, 8, 9), (0, 1, 2, 3, 4 + 5)):
            self.raises(Misfit, ("places",), corners_by, notch, places)
            self.raises(Misfit, ("places",), corners_by, notch, list(places))
        numbers = random.Random(83)
        for fence in fences_of_all_kinds()[::4]:
            places = drawn_places(fence.many, numbers)
            one, other = numbers.sample(range(fence.many), 2)
            for by, also in ((1, 0), (fence.many, 0), (-1, 1) if (places[one] - places[other]) % fence.many != 1 else (1, 1)):
                bent = list(places)
                bent[one] += by
                bent[other] += also
                self.raises(Misfit, ("places",), corners_by, fence, bent)
        self.raises(BadFence, ("fence",), corners_by, None, (0, 1))

    def test_nothing_is_changed(self):
        places, film = [4, 1, 2, 3, 0], [[2, 4]]
        corners_by(Fence(NOTCH), places)
        sides_behind(Fence(NOTCH), film)
        self.assertEqual([places, film], [[4, 1, 2, 3, 0], [[2, 4]]])


class Times(Case):
    def test_short_time(self):
        for fence in (comb(25, 10 ** 5), spiral(49), Fence(slanted(spiral_corners(49), 10 ** 4)), zigzag(199), comb(100, 10 ** 6)):
            film = film_out(fence)[:60]
            for function in (sides_behind, places_behind):
                self.is_short(function, fence, film)
            self.is_short(track_of, fence, film, 7)
            places = places_behind(fence, film)
            self.assertEqual(self.is_short(corners_by, fence, places), played(fence, film).corners)
        for fence in (zigzag(199), comb(25, 10 ** 5)):
            film = narrow_mouths(fence, 60)
            for function in (sides_behind, places_behind):
                self.is_short(function, fence, film)


if __name__ == "__main__":
    unittest.main()
